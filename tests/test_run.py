"""Points 3 and 4: how many instructions run does, what why tells of it, and what stands between runs."""

import unittest

from assembler import code, word
from lines import LEAST_ASKED, MOST_ASKED, MOST_STEPS, ask, get, put, run, set_, take, why
from program import START, CodeCase, start_calls, state_calls

COUNT = word("addi", rd=5, rs1=5, imm=1)
SHORT_COUNT = word("c.addi", rd=5, imm=1)
ECALL = word("ecall")
EBREAK = word("ebreak")
SHORT_EBREAK = word("c.ebreak")
UNKNOWN = 0xffffffff
OUTSIDE = word("lb", rd=5, rs1=0, imm=-1)
# why, an instruction that stops the machine for it.
STOPS = ((1, ECALL), (2, EBREAK), (2, SHORT_EBREAK), (3, UNKNOWN), (3, 0), (4, OUTSIDE))
REFUSED = (-1, -2, MOST_STEPS + 1, MOST_STEPS + 2, LEAST_ASKED, MOST_ASKED, -MOST_STEPS)


def program(*words):
    """The count in register 5 is 0, and pc is at the words."""
    return put(START, code(*words)), set_(32, START)


def answered(*calls):
    """What is answered behind the two calls of program."""
    return ask(*calls)[2:]


class HowMany(CodeCase):
    def test_steps_of_0(self):
        for words in ((COUNT,), (ECALL,), (UNKNOWN,)):
            rows = answered(*program(*words), run(0), why(), get(5), get(32))
            self.assertEqual(rows, [[0], [0], [0, 0], [0, START]])

    def test_steps_of_1(self):
        rows = answered(*program(COUNT, COUNT), run(1), why(), get(5), get(32))
        self.assertEqual(rows, [[1], [0], [0, 1], [0, START + 4]])

    def test_as_many_as_there_are_before_the_stop(self):
        for reason, stop in STOPS:
            rows = answered(*program(*[COUNT] * 7, stop), run(7), why(), get(5), get(32))
            self.assertEqual(rows, [[7], [0], [0, 7], [0, START + 28]], reason)

    def test_more(self):
        for reason, stop in STOPS:
            for steps in (8, 9, 100, 2 ** 31, 2 ** 32, MOST_STEPS - 1, MOST_STEPS):
                rows = answered(*program(*[COUNT] * 7, stop), run(steps), why(), get(5), get(32))
                self.assertEqual(rows, [[7], [reason], [0, 7], [0, START + 28]], (reason, steps))

    def test_fewer(self):
        for steps in range(7):
            rows = answered(*program(*[COUNT] * 7, ECALL), run(steps), why(), get(5), get(32))
            self.assertEqual(rows, [[steps], [0], [0, steps], [0, START + 4 * steps]])

    def test_long_and_short_ones_count_alike(self):
        rows = answered(*program(COUNT, SHORT_COUNT, SHORT_COUNT, COUNT, ECALL), run(100), get(5), get(32))
        self.assertEqual(rows, [[4], [0, 4], [0, START + 12]])

    def test_a_new_machine_stops_at_16_zero_bits(self):
        self.assertEqual(ask(run(1), why(), get(32)), [[0], [3], [0, 0]])
        self.assertEqual(ask(run(MOST_STEPS), why(), get(32)), [[0], [3], [0, 0]])

    def test_a_loop_of_many_steps(self):
        rows = answered(*program(COUNT, word("jal", rd=0, imm=-4)), run(100001), why(), get(5), get(32))
        self.assertEqual(rows, [[100001], [0], [0, 50001], [0, START + 4]])

    def test_an_odd_place_is_never_reached(self):
        rows = ask(set_(6, 4097), *program(word("jalr", rd=0, rs1=6)), run(1), get(32))
        self.assertEqual(rows[3:], [[1], [0, 4096]])


class Refused(CodeCase):
    def test_the_answer(self):
        for steps in REFUSED:
            self.assertEqual(ask(run(steps)), [[-1]], steps)
            self.assertEqual(answered(*program(COUNT), run(steps)), [[-1]], steps)

    def test_the_greatest_that_is_taken(self):
        self.assertEqual(ask(run(MOST_STEPS)), [[0]])

    def test_nothing_changes(self):
        calls = start_calls([COUNT, COUNT, ECALL], rows={300: [1, 2, 3]})
        before = ask(*calls, *state_calls(True))[len(calls):]
        for steps in REFUSED:
            after = ask(*calls, run(steps), *state_calls(True))[len(calls) + 1:]
            self.assertEqual(after, before, steps)

    def test_why_stays_what_it_was(self):
        for steps in REFUSED:
            self.assertEqual(ask(run(steps), why()), [[-1], [0]])
            self.assertEqual(answered(*program(COUNT), run(1), run(steps), why()), [[1], [-1], [0]])
            for reason, stop in STOPS:
                rows = answered(*program(COUNT, stop), run(9), why(), run(steps), why(), run(steps), why())
                self.assertEqual(rows, [[1], [reason], [-1], [reason], [-1], [reason]])


class Why(CodeCase):
    def test_a_new_machine(self):
        self.assertEqual(ask(why()), [[0]])
        self.assertEqual(ask(why(), why(), set_(5, 1), put(0, [1]), why()), [[0], [0], [0], [0], [0]])

    def test_each_stop(self):
        for reason, stop in STOPS:
            self.assertEqual(answered(*program(stop), run(1), why(), why()), [[0], [reason], [reason]])

    def test_0_again_behind_a_run_whose_steps_were_done(self):
        for reason, stop in STOPS:
            rows = answered(*program(stop), run(1), why(), run(0), why())
            self.assertEqual(rows, [[0], [reason], [0], [0]])
            rows = answered(*program(stop, COUNT), run(1), why(), *program(COUNT), run(1), why())
            self.assertEqual(rows, [[0], [reason], [0], [0], [1], [0]])

    def test_one_stop_behind_another(self):
        for reason, stop in STOPS:
            for other_reason, other in STOPS:
                rows = answered(*program(stop), run(5), why(), *program(other), run(5), why())
                self.assertEqual(rows, [[0], [reason], [0], [0], [0], [other_reason]])

    def test_the_other_calls_leave_it(self):
        for reason, stop in STOPS:
            others = (put(START, [1, 0]), take(0, 1), set_(5, 1), set_(32, 0), get(5), put(-1, [1]), take(-1, 1),
                      set_(33, 1), get(33))
            for other in others:
                self.assertEqual(answered(*program(stop), run(1), other, why())[2], [reason])


class Between(CodeCase):
    def test_runs_go_on_where_the_last_one_ended(self):
        more = (run(2), get(5), run(0), run(3), get(5), run(1), get(32), run(9), why())
        rows = answered(*program(*[COUNT] * 9, ECALL), *more)
        self.assertEqual(rows, [[2], [0, 2], [0], [3], [0, 5], [1], [0, START + 24], [3], [1]])

    def test_one_run_or_many(self):
        words = [COUNT, word("slli", rd=6, rs1=5, imm=3), word("sd", rs1=6, rs2=5, imm=512), word("jal", rd=0, imm=-12)]
        for parts in ([60], [1] * 60, [7, 0, 13, 40], [59, 1], [0, 60, 0]):
            calls = start_calls(words, {5: 0})
            runs = [run(steps) for steps in parts]
            rows = ask(*calls, *runs, *state_calls(True))[len(calls):]
            self.assertEqual(rows[:len(parts)], [[steps] for steps in parts])
            self.assertEqual(rows[len(parts) + 5], [0, 15])
            whole = ask(*calls, run(60), *state_calls(True))[len(calls) + 1:]
            self.assertEqual(rows[len(parts):], whole)

    def test_a_stopped_machine_is_stopped_again(self):
        for reason, stop in STOPS:
            rows = answered(*program(COUNT, stop), run(5), why(), run(5), why(), run(1), why(), get(5), get(32))
            self.assertEqual(rows[:6], [[1], [reason], [0], [reason], [0], [reason]])
            self.assertEqual(rows[6:], [[0, 1], [0, START + 4]])

    def test_pc_set_behind_the_stop(self):
        for reason, stop in STOPS:
            size = len(code(stop))
            rows = answered(*program(stop, COUNT, ECALL), run(5), why(), set_(32, START + size), run(5), why(), get(5))
            self.assertEqual(rows, [[0], [reason], [0], [1], [1], [0, 1]])

    def test_put_between(self):
        for reason, stop in STOPS:
            rows = answered(*program(stop), run(5), put(START, code(COUNT)), run(1), why(), get(5))
            self.assertEqual(rows, [[0], [0], [1], [0], [0, 1]], reason)

    def test_set_between(self):
        more = (run(1), set_(5, 40), run(1), get(5), set_(5, 2 ** 64 - 1), run(1), get(5))
        rows = answered(*program(COUNT, COUNT, COUNT), *more)
        self.assertEqual(rows, [[1], [0], [1], [0, 41], [0], [1], [0, 0]])

    def test_what_was_stored_is_taken(self):
        words = (word("sd", rs1=6, rs2=7), word("ld", rd=8, rs1=6, imm=1))
        rows = ask(set_(6, 300), set_(7, 0x0102030405060708), *program(*words), run(1), take(299, 10),
                   put(308, [0xff]), run(1), get(8))
        self.assertEqual(rows[4:], [[1], [0, 0, 8, 7, 6, 5, 4, 3, 2, 1, 0], [0], [1], [0, 0xff01020304050607]])


if __name__ == "__main__":
    unittest.main()
