"""Point 3 where very many different instructions are done: each is done right, and what is kept for them has an end."""

import tracemalloc
import unittest

from assembler import code, word
from lines import MOST_STEPS, Case, ask, get, join, put, run, set_, why
from smallcore.desk import answers
from smallcore.machine import Machine

# Written here anew: a greater bound in the program is to be seen.
MOST_KNOWN = 32768
STORED = 12
NEXT = 1 << 12
# Stores the word in register 5 at STORED, does it, adds register 9 to register 10, and goes on with the next word.
WRITER = (
    word("sw", rs1=0, rs2=5, imm=STORED), word("add", rd=5, rs1=5, rs2=6), word("fence"), word("fence"),
    word("add", rd=10, rs1=10, rs2=9), word("bne", rs1=5, rs2=8, imm=-20), word("ecall"),
)
STEPS_A_WORD = 6
# The different words of WRITER that are done too, and the one that stops it.
OWN = 6


def registers(name, words):
    """Those that let WRITER do the first words of a name: their upper 20 bits are 0, 1, 2 and so on."""
    first = word(name, rd=9)
    return {5: first, 6: NEXT, 8: first + words * NEXT}


def writer_calls(name, words):
    return [put(0, code(*WRITER))] + [set_(which, value) for which, value in registers(name, words).items()]


def summed(name, words):
    """What all of them leave in register 9, added up; none of them is below 0 here."""
    return sum(k * NEXT + (STORED if name == "auipc" else 0) for k in range(words))


class ManyWords(Case):
    def check(self, name, words):
        """The words are done one after another, and behind them the first two again, the second one first."""
        calls = writer_calls(name, words)
        again = [put(0, code(word(name, rd=9, imm=NEXT), word(name, rd=9, imm=0))), set_(32, 0)]
        rows = ask(*calls, run(MOST_STEPS), why(), get(10), *again, run(1), get(9), run(1), get(9))[len(calls):]
        self.assertEqual(rows[:3], [[STEPS_A_WORD * words], [1], [0, summed(name, words)]], (name, words))
        self.assertEqual(rows[5:], [[1], [0, NEXT], [1], [0, 4 if name == "auipc" else 0]], (name, words))

    def test_few(self):
        for name in ("lui", "auipc"):
            for words in (1, 2, 16):
                self.check(name, words)

    def test_as_many_as_stay_known_and_some_more(self):
        for words in (MOST_KNOWN - OWN - 1, MOST_KNOWN - OWN, MOST_KNOWN - OWN + 1, MOST_KNOWN, MOST_KNOWN + 1):
            self.check("lui", words)

    def test_many_more(self):
        for name in ("lui", "auipc"):
            self.check(name, 2 * MOST_KNOWN + 5)


class Room(Case):
    def test_how_many_are_known(self):
        machine = Machine()
        machine.put(0, code(*WRITER))
        for which, value in registers("lui", 2 * MOST_KNOWN).items():
            machine.set_value(which, value)
        most = 0
        while machine.why() == [0]:
            machine.run(STEPS_A_WORD)
            most = max(most, len(machine.known_words))
        self.assertEqual(machine.why(), [1])
        self.assertLessEqual(most, MOST_KNOWN)

    def room(self, words):
        calls = join(*writer_calls("lui", words), run(MOST_STEPS))
        tracemalloc.start()
        answered = answers(calls)
        most = tracemalloc.get_traced_memory()[1]
        tracemalloc.stop()
        self.assertEqual(answered[-1], STEPS_A_WORD * words)
        return most

    def test_four_times_as_many_words_need_no_more_room(self):
        few = self.room(MOST_KNOWN)
        self.assertLess(few, 2 ** 24)
        self.assertLess(self.room(4 * MOST_KNOWN), few + 2 ** 18)


if __name__ == "__main__":
    unittest.main()
