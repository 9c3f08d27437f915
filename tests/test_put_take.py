"""Point 1: put and take."""

import random
import unittest

from lines import HIGHEST, LOWEST, MEMORY_SIZE, MOST_PUT, Case, ask, joined_rows, pattern, put, read_all, take


def whole_memory(*calls):
    return joined_rows(ask(*calls, *read_all())[len(calls):])


class PutThenTake(Case):
    def test_the_same_bytes(self):
        self.assertEqual(ask(put(100, [1, 2, 255]), take(100, 3)), [[0], [0, 1, 2, 255]])

    def test_some_of_them(self):
        rows = ask(put(100, [5, 6, 7, 8]), take(101, 2), take(100, 1), take(103, 1))
        self.assertEqual(rows, [[0], [0, 6, 7], [0, 5], [0, 8]])

    def test_bytes_around_them(self):
        rows = ask(put(100, [5, 6]), take(98, 6), take(97, 3), take(102, 2))
        self.assertEqual(rows, [[0], [0, 0, 0, 5, 6, 0, 0], [0, 0, 0, 0], [0, 0, 0]])

    def test_puts_over_one_another(self):
        rows = ask(put(10, [1, 2, 3, 4, 5]), put(12, [9, 8]), put(13, [7]), put(8, [6, 6, 6]), take(7, 9))
        self.assertEqual(rows[:4], [[0]] * 4)
        self.assertEqual(rows[4], [0, 0, 6, 6, 6, 2, 9, 7, 5, 0])

    def test_a_zero_replaces_what_stood_there(self):
        self.assertEqual(ask(put(3, [7, 7, 7]), put(4, [0]), take(3, 3))[2], [0, 7, 0, 7])

    def test_take_leaves_the_bytes_there(self):
        self.assertEqual(ask(put(3, [7]), take(3, 1), take(3, 1))[1:], [[0, 7], [0, 7]])

    def test_take_is_of_the_moment(self):
        rows = ask(take(3, 1), put(3, [7]), take(3, 1), put(3, [8]), take(3, 1))
        self.assertEqual(rows, [[0, 0], [0], [0, 7], [0], [0, 8]])

    def test_every_byte_value(self):
        self.assertEqual(ask(put(0, range(256)), take(0, 256))[1], [0] + list(range(256)))

    def test_a_new_machine_holds_zeros(self):
        self.assertEqual(whole_memory(), [0] * MEMORY_SIZE)

    def test_the_whole_memory_holds_what_was_put(self):
        numbers = pattern(MEMORY_SIZE)
        # Four rows of 16384 are more than one list may have: each part is put and read by itself.
        for place in range(0, MEMORY_SIZE, 8192):
            part = numbers[place:place + 8192]
            expected = [0] * place + part + [0] * (MEMORY_SIZE - place - 8192)
            self.assertEqual(whole_memory(put(place, part)), expected)

    def test_the_longest_put(self):
        numbers = pattern(MOST_PUT)
        memory = whole_memory(put(20000, numbers))
        self.assertEqual(memory, [0] * 20000 + numbers + [0] * (MEMORY_SIZE - 20000 - MOST_PUT))


class PutEdges(Case):
    def check_refused(self, place, numbers):
        self.assertEqual(ask(put(place, numbers)), [[-1]])
        self.assertEqual(whole_memory(put(place, numbers)), [0] * MEMORY_SIZE)

    def test_no_bytes(self):
        for place in (0, 1, 65535, 65536):
            self.assertEqual(ask(put(place, [])), [[0]])
            self.assertEqual(whole_memory(put(place, [])), [0] * MEMORY_SIZE)
        for place in (-1, 65537, LOWEST, HIGHEST):
            self.check_refused(place, [])

    def test_first_and_last_byte(self):
        memory = whole_memory(put(0, [3]), put(65535, [4]))
        self.assertEqual(memory, [3] + [0] * (MEMORY_SIZE - 2) + [4])

    def test_a_sum_of_just_65536(self):
        for n in (1, 2, 16, 2000, MOST_PUT):
            numbers = pattern(n)
            self.assertEqual(ask(put(MEMORY_SIZE - n, numbers)), [[0]])
            self.assertEqual(whole_memory(put(MEMORY_SIZE - n, numbers)), [0] * (MEMORY_SIZE - n) + numbers)

    def test_a_sum_of_65537(self):
        for n in (1, 2, 16, 2000, MOST_PUT):
            self.check_refused(MEMORY_SIZE + 1 - n, pattern(n))

    def test_a_negative_place(self):
        for place in (-1, -2, -3, -65536, -65537, LOWEST):
            self.check_refused(place, [1, 2, 3])

    def test_a_place_too_high(self):
        for place in (65536, 65537, 131072, HIGHEST):
            self.check_refused(place, [1])

    def test_a_refused_put_keeps_what_stood_there(self):
        kept = (put(0, [11, 12]), put(65534, [13, 14]))
        expected = [11, 12] + [0] * (MEMORY_SIZE - 4) + [13, 14]
        self.assertEqual(whole_memory(*kept), expected)
        for refused in (put(65534, [1, 2, 3]), put(-1, [1, 2, 3]), put(-2, [1]), put(65536, [1])):
            self.assertEqual(ask(*kept, refused)[2], [-1])
            self.assertEqual(whole_memory(*kept, refused), expected)

    def test_a_put_behind_a_refused_one(self):
        self.assertEqual(ask(put(-1, [5, 6, 7]), put(0, [9]), take(0, 2)), [[-1], [0], [0, 9, 0]])


class TakeEdges(Case):
    def check_refused(self, place, n):
        self.assertEqual(ask(take(place, n)), [[-1]])

    def test_no_bytes(self):
        for place in (0, 1, 65535, 65536):
            self.assertEqual(ask(take(place, 0)), [[0]])
        for place in (-1, 65537, LOWEST, HIGHEST):
            self.check_refused(place, 0)

    def test_a_sum_of_just_65536(self):
        for n in (1, 2, 1999, 2000):
            numbers = pattern(n)
            rows = ask(put(MEMORY_SIZE - n, numbers), take(MEMORY_SIZE - n, n))
            self.assertEqual(rows, [[0], [0] + numbers])

    def test_a_sum_of_65537(self):
        for n in (1, 2, 1999, 2000, 65537):
            self.check_refused(MEMORY_SIZE + 1 - n, n)

    def test_a_negative_place(self):
        for place in (-1, -2, -2000, -65536, LOWEST):
            for n in (0, 1, 2, 2000, 65537, HIGHEST):
                self.check_refused(place, n)

    def test_a_negative_n(self):
        for n in (-1, -2, -65536, LOWEST):
            for place in (0, 1, 2, 65535, 65536, HIGHEST, -1, LOWEST):
                self.check_refused(place, n)

    def test_n_above_65536(self):
        for n in (65537, 65538, 131072, HIGHEST):
            for place in (0, 1, 65536, HIGHEST, -1, 65536 - n, -n):
                self.check_refused(max(place, LOWEST), n)

    def test_a_place_too_high(self):
        for place in (65536, 65537, HIGHEST):
            for n in (1, 2000, HIGHEST):
                self.check_refused(place, n)

    def test_a_refused_take_changes_nothing(self):
        rows = ask(put(0, [5, 6]), take(-1, 2), take(65535, 2), take(0, -1), take(0, 2))
        self.assertEqual(rows, [[0], [-1], [-1], [-1], [0, 5, 6]])


class AgainstAPlainModel(Case):
    """Many puts and takes in mixed order, against a dict of bytes."""

    def model(self, calls):
        memory = {}
        rows = []
        for call in calls:
            n = call[2]
            cells = range(call[1], call[1] + n)
            if call[1] < 0 or n < 0 or call[1] + n > 65536:
                rows.append([-1])
            elif call[0] == 1:
                memory.update(zip(cells, call[3:]))
                rows.append([0])
            else:
                rows.append([0] + [memory.get(cell, 0) for cell in cells])
        return rows

    def test_mixed_calls(self):
        for seed in range(20):
            source = random.Random(seed)
            base = source.choice((0, 1000, 65536 - 60))
            calls = []
            while len(calls) < 400:
                place = base + source.randint(-20, 60)
                if source.random() < 0.5:
                    calls.append(put(place, [source.randint(0, 255) for k in range(source.randint(0, 20))]))
                else:
                    calls.append(take(place, source.randint(-3, 40)))
            self.assertEqual(ask(*calls), self.model(calls))


if __name__ == "__main__":
    unittest.main()
