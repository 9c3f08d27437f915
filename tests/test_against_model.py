"""Points 3 and 4 over many words and programs, against a second machine that is written another way."""

import random
import unittest
from unittest import mock

from assembler import PIECES, ROWS, code, word
from lines import Case, ask, get, put, run, set_, take, why
from model import Model, find

START = 0x3000
EDGES = (
    0, 1, 32, 63, 64, 65535, 2 ** 31 - 1, 2 ** 31, 2 ** 32 - 1, 2 ** 63 - 1, 2 ** 63, 2 ** 64 - 2 ** 31, 2 ** 64 - 1,
)


def some_value(source):
    """Addresses in memory and at its ends, edges, and any number."""
    return source.choice((
        source.randrange(65536), source.randrange(65536), source.randrange(65400, 65600),
        source.randrange(-600, 600) % 2 ** 64, source.choice(EDGES), source.getrandbits(32), source.getrandbits(64),
    ))


def some_word(source):
    """A word of a chosen instruction, its fields as they come."""
    name = source.choice(sorted(ROWS))
    fields = {}
    for field, k in PIECES[name]:
        if k is not None:
            fields[field.rstrip("'")] = source.randrange(8, 16) if field.endswith("'") else source.getrandbits(5)
    if "imm" in fields:
        fields["imm"] = source.getrandbits(32)
        if name in ("jal", "c.j", "c.beqz", "c.bnez") or name.startswith("b") and source.random() < 0.9:
            fields["imm"] = source.choice((2, 4, 6, 8, 12, 20, -2, -4, -8, -16))
    return word(name, **fields)


class Both:
    """Tells the desk's calls and does the same on the model, then holds the answers against each other."""

    def __init__(self, case):
        self.case = case
        self.model = Model()
        self.calls = []
        self.expected = []

    def tell(self, call, *answer):
        self.calls.append(call)
        self.expected.append(list(answer))

    def set(self, which, value):
        if which == 32:
            self.model.pc = value
        else:
            self.model.set(which, value)
        self.tell(set_(which, value), 0)

    def put(self, place, row):
        self.model.memory[place:place + len(row)] = bytes(row)
        self.tell(put(place, row), 0)

    def run(self, steps):
        self.tell(run(steps), self.model.run(steps))
        self.tell(why(), self.model.why)

    def get(self, which):
        self.tell(get(which), 0, self.model.pc if which == 32 else self.model.x[which])

    def take(self, place, n):
        self.tell(take(place, n), 0, *self.model.memory[place:place + n])

    def check(self, told):
        self.case.assertEqual(ask(*self.calls), self.expected, told)


class OneByOne(Case):
    """Each word alone, with the registers as they were before the last one."""

    def check_words(self, words, seed):
        source = random.Random(seed)
        for at in range(0, len(words), 40):
            both = Both(self)
            values = [0] + [some_value(source) for which in range(31)]
            for which in range(1, 32):
                both.set(which, values[which])
            part = words[at:at + 40]
            for number in part:
                both.put(START, code(number))
                both.set(32, START)
                before = bytes(both.model.memory)
                both.run(1)
                both.get(32)
                self.undo(both, values, before)
            for which in range(32):
                both.get(which)
            both.check([hex(number) for number in part])

    def undo(self, both, values, before):
        changed = [which for which in range(32) if both.model.x[which] != values[which]]
        for which in changed:
            both.get(which)
            both.set(which, values[which])
        if both.model.memory != before:
            place = next(k for k in range(65536) if both.model.memory[k] != before[k])
            both.take(max(place - 8, 0), min(24, 65536 - max(place - 8, 0)))

    def test_every_short_word(self):
        words = [number for number in range(65536) if number % 4 != 3]
        random.Random(1).shuffle(words)
        self.check_words(words, 2)

    def test_long_words_by_all_that_tells_them_apart(self):
        source = random.Random(3)
        words = [source.getrandbits(32) & 0x01ff8f80 | high << 25 | three << 12 | opcode
                 for high in range(128) for three in range(8) for opcode in range(3, 128, 4)]
        self.check_words(words, 4)

    def test_instructions_of_any_fields(self):
        for seed in range(5):
            source = random.Random(seed)
            self.check_words([some_word(source) for k in range(4000)], seed + 100)


class Programs(Case):
    def program(self, seed):
        source = random.Random(seed)
        both = Both(self)
        for which in range(1, 32):
            both.set(which, some_value(source))
        both.put(START, code(*[some_word(source) for k in range(200)]))
        both.put(0, [source.getrandbits(8) for k in range(1000)])
        both.put(65000, [source.getrandbits(8) for k in range(536)])
        both.set(32, START)
        while len(both.calls) < 300:
            self.go_on(both, source)
        for which in range(33):
            both.get(which)
        for place in range(0, 65536, 2000):
            both.take(place, min(2000, 65536 - place))
        both.check(seed)

    def go_on(self, both, source):
        both.run(source.choice((0, 1, 1, 2, 5, 20, 100)))
        both.get(32)
        both.get(source.randrange(32))
        if both.model.why or source.random() < 0.1:
            both.set(32, START + 2 * source.randrange(300))
            both.set(source.randrange(32), some_value(source))
        if source.random() < 0.1:
            both.put(START + source.randrange(600), [source.getrandbits(8) for k in range(source.randrange(5))])

    def test_programs(self):
        for seed in range(150):
            self.program(seed)

    def test_programs_whose_words_are_often_forgotten(self):
        for most in (1, 2, 7):
            with mock.patch("smallcore.execute.MOST_KNOWN_WORDS", most):
                for seed in range(1000, 1010):
                    self.program(seed)


class TheModelItself(Case):
    def test_what_it_finds(self):
        self.assertEqual(find(0x00108093), ("addi", {"imm": 1, "rs1": 1, "rd": 1}))
        self.assertEqual(find(0xff1ff06f), ("jal", {"imm": -16, "rd": 0}))
        self.assertEqual(find(0x9002), ("c.ebreak", {}))
        self.assertEqual(find(0x8082), ("c.jr", {"rs1": 1}))
        self.assertEqual(find(0x6101), None)
        self.assertEqual(find(0), None)
        self.assertEqual(find(0x1f), None)

    def test_how_many_short_words_are_instructions(self):
        # Counted with a public disassembler, less the 31 of C.LUI by 0, which it shows though they are reserved.
        words = [number for number in range(65536) if number % 4 != 3]
        self.assertEqual(sum(find(number) is not None for number in words), 38582 - 31)


if __name__ == "__main__":
    unittest.main()
