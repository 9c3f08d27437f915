"""The interface: smallcore.desk.answers(calls)."""

import builtins
import contextlib
import inspect
import io
import itertools
import sys
import unittest
from unittest import mock

from lines import MOST_CALLS, MOST_PUT, MOST_VALUE, Case, get, join, pattern, put, run, set_, split, take, why
from smallcore.desk import answers

# addi x5, x5, 1; sd x5, 8(x0); c.addi x5, 1; ecall
PROGRAM = [0x93, 0x82, 0x12, 0x00, 0x23, 0x34, 0x50, 0x00, 0x85, 0x02, 0x73, 0x00, 0x00, 0x00]
MIXED = join(
    take(0, 2), put(1, [8, 9]), set_(5, 7), take(0, 4), put(65536, [1]), set_(33, 0), take(0, 0), set_(32, 2),
    put(0, []), take(-1, 1), set_(32, 3), set_(0, MOST_VALUE),
    why(), get(32), get(5), get(33), run(-1), put(100, PROGRAM), set_(32, 100), run(1), why(), get(5),
    run(10), why(), get(5), get(32), take(7, 3), run(2 ** 40 + 1), why(), set_(32, 98), run(5), why(),
    set_(5, MOST_VALUE), get(5), run(0), why(),
)
MIXED_ANSWERS = [
    3, 0, 0, 0, 1, 0, 1, 0, 5, 0, 0, 8, 9, 0, 1, -1, 1, -1, 1, 0, 1, 0, 1, 0, 1, -1, 1, -1, 1, 0,
    1, 0, 2, 0, 2, 2, 0, 7, 1, -1, 1, -1, 1, 0, 1, 0, 1, 1, 1, 0, 2, 0, 8,
    1, 2, 1, 1, 2, 0, 9, 2, 0, 110, 4, 0, 0, 8, 0, 1, -1, 1, 1, 1, 0, 1, 0, 1, 3, 1, 0, 2, 0, MOST_VALUE,
    1, 0, 1, 0,
]


def refuse(*given, **named):
    raise AssertionError("this is not to be called")


class Untouchable(list):
    """A list that fails at whatever would change it, even for a while."""

    __setitem__ = __delitem__ = __iadd__ = __imul__ = refuse
    append = clear = extend = insert = pop = remove = reverse = sort = refuse


class Form(Case):
    def test_the_argument_is_called_calls(self):
        self.assertEqual(list(inspect.signature(answers).parameters), ["calls"])
        self.assertEqual(answers(calls=[]), [])

    def test_the_empty_list(self):
        self.assertEqual(answers([]), [])

    def test_one_call_each(self):
        self.assertEqual(answers([1, 7, 2, 4, 5]), [1, 0])
        self.assertEqual(answers([1, 7, 0]), [1, 0])
        self.assertEqual(answers([2, 7, 3]), [4, 0, 0, 0, 0])
        self.assertEqual(answers([2, 7, 0]), [1, 0])
        self.assertEqual(answers([3, 7, 4]), [1, 0])
        self.assertEqual(answers([4, 7]), [2, 0, 0])
        self.assertEqual(answers([5, 0]), [1, 0])
        self.assertEqual(answers([6]), [1, 0])

    def test_a_refusal_is_its_number_alone(self):
        self.assertEqual(answers([1, -1, 2, 4, 5]), [1, -1])
        self.assertEqual(answers([2, -1, 3]), [1, -1])
        self.assertEqual(answers([2, 65535, 2000]), [1, -1])
        self.assertEqual(answers([3, 33, 4]), [1, -1])
        self.assertEqual(answers([4, 33]), [1, -1])
        self.assertEqual(answers([5, -1]), [1, -1])

    def test_calls_in_mixed_order(self):
        self.assertEqual(answers(MIXED), MIXED_ANSWERS)

    def test_calls_in_any_order(self):
        calls = (put(8, [1, 0]), take(8, 1), set_(32, 8), get(32), run(1), why())
        for order in itertools.permutations(range(6)):
            model = {"byte": 0, "pc": 0, "why": 0}
            expected = []
            for k in order:
                expected += self.plain_answer(k, model)
            self.assertEqual(answers(join(*[calls[k] for k in order])), expected, order)

    def plain_answer(self, k, model):
        """What the call number k of the test above answers: C.NOP stands at 8 once it is put."""
        if k == 0:
            model["byte"] = 1
        if k == 2:
            model["pc"] = 8
        if k == 4:
            done = model["pc"] == 8 and model["byte"] == 1
            model["why"] = 0 if done else 3
            model["pc"] += 2 if done else 0
            return [1, int(done)]
        return ([1, 0], [2, 0, model["byte"]], [1, 0], [2, 0, model["pc"]], None, [1, model["why"]])[k]

    def test_bytes_that_look_like_calls_are_bytes(self):
        calls = join(put(0, [2, 0, 3]), put(3, [1, 0, 1, 5]), take(0, 7))
        self.assertEqual(answers(calls), [1, 0, 1, 0, 8, 0, 2, 0, 3, 1, 0, 1, 5])

    def test_a_refused_put_is_read_to_its_end(self):
        self.assertEqual(answers(join(put(-5, [3, 1, 1]), take(0, 1))), [1, -1, 2, 0, 0])

    def test_400_calls(self):
        calls = join(*[(put(k, [k % 256]), take(k - 1, 2), set_(k % 40, 2))[k % 3] for k in range(MOST_CALLS)])
        rows = split(answers(calls))
        self.assertEqual(len(rows), MOST_CALLS)
        for k, row in enumerate(rows):
            expected = ([0], [0, (k - 1) % 256, 0], [0] if k % 40 <= 32 else [-1])[k % 3]
            self.assertEqual(row, expected, k)

    def test_400_calls_of_all_six(self):
        nops = put(0, [1, 0] * 100)
        calls = [(run(1), why(), get(32), get(40), set_(5, k), get(5))[k % 6] for k in range(MOST_CALLS - 1)]
        rows = split(answers(join(nops, *calls)))
        self.assertEqual(len(rows), MOST_CALLS)
        for k, row in enumerate(rows[1:]):
            self.assertEqual(row, ([1], [0], [0, 2 * (k // 6 + 1)], [-1], [0], [0, k - 1])[k % 6], k)

    def test_400_of_the_longest_takes(self):
        row = pattern(2000)
        calls = join(put(300, row), *[take(300, 2000)] * (MOST_CALLS - 1))
        self.assertEqual(answers(calls), [1, 0] + ([2001, 0] + row) * (MOST_CALLS - 1))

    def test_the_kinds_given_back(self):
        for calls in ([], MIXED):
            answered = answers(calls)
            self.assertIs(type(answered), list)
            self.assertEqual({type(number) for number in answered} - {int}, set())

    def test_a_number_that_is_no_call_fails(self):
        for number in (0, -1, 7, 8):
            with self.assertRaises(ValueError):
                answers([number])


class HandedIn(Case):
    def test_the_list_is_the_same_behind_the_call(self):
        for calls in ([], MIXED, join(put(0, pattern(MOST_PUT)), take(0, 2000))):
            given = list(calls)
            answers(given)
            self.assertEqual(given, calls)

    def test_the_list_is_not_changed_for_a_while_either(self):
        self.assertEqual(answers(Untouchable(MIXED)), MIXED_ANSWERS)

    def test_what_is_given_back_is_another_list(self):
        given = []
        self.assertIsNot(answers(given), given)


class NothingKept(Case):
    def test_the_same_call_twice(self):
        self.assertEqual(answers(MIXED), answers(MIXED))
        self.assertEqual(answers(MIXED), MIXED_ANSWERS)

    def test_a_machine_is_new_each_time(self):
        answers(join(put(0, [1, 2, 3]), put(65535, [4])))
        self.assertEqual(answers(join(take(0, 3), take(65535, 1))), [4, 0, 0, 0, 0, 2, 0, 0])
        answers(join(set_(5, 9), set_(32, 6), put(6, [1, 0]), run(1), run(1)))
        self.assertEqual(answers(join(why(), get(5), get(32))), [1, 0, 2, 0, 0, 2, 0, 0])

    def test_words_that_were_read_before_are_read_again(self):
        first = join(put(0, PROGRAM), run(2), get(5))
        self.assertEqual(answers(first), [1, 0, 1, 2, 2, 0, 1])
        self.assertEqual(answers(join(put(0, [0] * 14), run(2), get(5))), [1, 0, 1, 0, 2, 0, 0])
        self.assertEqual(answers(first), [1, 0, 1, 2, 2, 0, 1])

    def test_changing_what_was_given_back(self):
        answered = answers(MIXED)
        answered.clear()
        answers([]).append(5)
        self.assertEqual(answers(MIXED), MIXED_ANSWERS)
        self.assertEqual(answers([]), [])

    def test_a_call_that_failed_leaves_nothing(self):
        with self.assertRaises(ValueError):
            answers(join(put(0, [9]), [7]))
        self.assertEqual(answers(take(0, 1)), [2, 0, 0])


class NothingAround(Case):
    def test_it_prints_reads_and_imports_nothing(self):
        out = io.StringIO()
        known = set(sys.modules)
        names = ("open", "input", "__import__", "print")
        with contextlib.ExitStack() as stack:
            stack.enter_context(contextlib.redirect_stdout(out))
            stack.enter_context(contextlib.redirect_stderr(out))
            for name in names:
                stack.enter_context(mock.patch.object(builtins, name, refuse))
            answered = answers(MIXED)
        self.assertEqual(answered, MIXED_ANSWERS)
        self.assertEqual(out.getvalue(), "")
        self.assertEqual(set(sys.modules) - known, set())

    def test_long_input_is_gone_through_by_loops(self):
        depth = len(inspect.stack(0))
        limit = sys.getrecursionlimit()
        longest = join(put(0, pattern(MOST_PUT)), take(0, 2000))
        many = join(*[set_(1, 1)] * MOST_CALLS)
        # addi x5, x5, 1; jal x0, -4
        looping = join(put(0, [0x93, 0x82, 0x12, 0x00, 0x6f, 0xf0, 0xdf, 0xff]), run(20000), get(5))
        sys.setrecursionlimit(depth + 30)
        try:
            first = answers(longest)
            second = answers(many)
            third = answers(looping)
        finally:
            sys.setrecursionlimit(limit)
        self.assertEqual(first, [1, 0, 2001, 0] + pattern(2000))
        self.assertEqual(second, [1, 0] * MOST_CALLS)
        self.assertEqual(third, [1, 0, 1, 20000, 2, 0, 10000])


if __name__ == "__main__":
    unittest.main()
