"""Point 2: set and get."""

import unittest

from lines import HIGHEST, LOWEST, MOST_VALUE, Case, ask, get, joined_rows, put, read_all, run, set_, take, why

VALUES = (0, 1, 2, 255, 65536, 2 ** 31, 2 ** 32 - 1, 2 ** 63 - 1, 2 ** 63, MOST_VALUE - 1, MOST_VALUE)
OTHER_NUMBERS = (33, 34, 63, 64, 65536, HIGHEST, -1, -2, -31, -32, -33, LOWEST)
GET_ALL = tuple(get(which) for which in range(33))
# Every register, and pc, holds something else.
FILLED = tuple(set_(which, 1000 + 2 * which) for which in range(33))
FILLED_VALUES = [0] + [1000 + 2 * which for which in range(1, 33)]


def all_values(*calls):
    """What get tells of all 33 behind calls."""
    rows = ask(*calls, *GET_ALL)[len(calls):]
    if [row[0] for row in rows] != [0] * 33:
        raise AssertionError("a get was refused")
    return [row[1] for row in rows]


class SetAnswers(Case):
    def test_every_number_from_0_to_31(self):
        for which in range(32):
            for value in VALUES:
                self.assertEqual(ask(set_(which, value)), [[0]], (which, value))

    def test_pc_of_an_even_value(self):
        for value in (0, 2, 4, 65534, 65536, 2 ** 63, MOST_VALUE - 1):
            self.assertEqual(ask(set_(32, value)), [[0]], value)

    def test_pc_of_an_odd_value(self):
        for value in (1, 3, 65535, 65537, 2 ** 63 - 1, 2 ** 63 + 1, MOST_VALUE):
            self.assertEqual(ask(set_(32, value)), [[-1]], value)

    def test_every_other_number(self):
        for which in OTHER_NUMBERS:
            for value in VALUES:
                self.assertEqual(ask(set_(which, value)), [[-1]], (which, value))

    def test_set_leaves_memory_alone(self):
        sets = [set_(which, MOST_VALUE - 1) for which in range(-1, 34)]
        rows = ask(put(0, [1, 2, 3]), *sets, take(0, 300))
        self.assertEqual(rows[-1], [0, 1, 2, 3] + [0] * 297)


class GetAnswers(Case):
    def test_a_new_machine(self):
        for which in range(33):
            self.assertEqual(ask(get(which)), [[0, 0]], which)

    def test_every_other_number(self):
        for which in OTHER_NUMBERS:
            self.assertEqual(ask(get(which)), [[-1]], which)
            self.assertEqual(ask(*FILLED, get(which))[33], [-1], which)

    def test_get_changes_nothing(self):
        gets = [get(which) for which in [*range(33), *OTHER_NUMBERS]]
        rows = ask(*FILLED, put(0, [1, 2]), *gets, *GET_ALL, why(), *read_all())[34 + len(gets):]
        self.assertEqual(rows[:34], [[0, value] for value in FILLED_VALUES] + [[0]])
        self.assertEqual(joined_rows(rows[34:]), [1, 2] + [0] * 65534)

    def test_the_same_get_twice(self):
        self.assertEqual(ask(set_(7, 9), get(7), get(7)), [[0], [0, 9], [0, 9]])

    def test_get_is_of_the_moment(self):
        rows = ask(get(7), set_(7, 9), get(7), set_(7, 10), get(7), set_(7, 0), get(7))
        self.assertEqual(rows, [[0, 0], [0], [0, 9], [0], [0, 10], [0], [0, 0]])

    def test_what_a_run_leaves(self):
        # addi x5, x5, 1
        rows = ask(put(0, [0x93, 0x82, 0x12, 0x00]), set_(5, MOST_VALUE), run(1), get(5), get(32))
        self.assertEqual(rows[2:], [[1], [0, 0], [0, 4]])


class SetThenGet(Case):
    def test_each_holds_its_own_value(self):
        self.assertEqual(all_values(*FILLED), FILLED_VALUES)

    def test_one_set_changes_one(self):
        for which in range(1, 32):
            for value in VALUES:
                expected = list(FILLED_VALUES)
                expected[which] = value
                self.assertEqual(all_values(*FILLED, set_(which, value)), expected)
                self.assertEqual(ask(set_(which, value), get(which)), [[0], [0, value]])

    def test_the_first_stays_0(self):
        for value in VALUES:
            self.assertEqual(ask(set_(0, value), get(0)), [[0], [0, 0]])
            self.assertEqual(all_values(*FILLED, set_(0, value)), FILLED_VALUES)

    def test_pc_is_the_even_value(self):
        for value in (0, 2, 65534, 65536, 2 ** 63, MOST_VALUE - 1):
            self.assertEqual(all_values(*FILLED, set_(32, value)), FILLED_VALUES[:32] + [value])

    def test_a_refused_set_changes_nothing(self):
        refused = [set_(32, 1), set_(32, 501), set_(32, MOST_VALUE)]
        refused += [set_(which, value) for which in OTHER_NUMBERS for value in VALUES]
        for call in refused:
            self.assertEqual(ask(call), [[-1]], call)
            self.assertEqual(all_values(*FILLED, call), FILLED_VALUES, call)
            self.assertEqual(all_values(call), [0] * 33, call)

    def test_a_put_leaves_them(self):
        self.assertEqual(all_values(*FILLED, put(0, [1, 2, 3]), put(-1, [1]), take(0, 3)), FILLED_VALUES)


if __name__ == "__main__":
    unittest.main()
