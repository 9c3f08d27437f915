"""What the tests share: calls as lists of numbers, and answers taken apart."""

import unittest

from smallcore.desk import answers

LOWEST = -2147483648
HIGHEST = 2147483647
MEMORY_SIZE = 65536
MOST_PUT = 15900
MOST_TAKEN = 2000
MOST_CALLS = 400
MOST_VALUE = 18446744073709551615
MOST_STEPS = 2 ** 40
LEAST_ASKED = -2 ** 63
MOST_ASKED = 2 ** 63 - 1


class Case(unittest.TestCase):
    """Tells the first difference of two lists alone: a full report of two long ones takes hours."""

    def setUp(self):
        self.addTypeEqualityFunc(list, self.check_lists)

    def check_lists(self, first, second, msg=None):
        if first == second:
            return
        at = 0
        while at < min(len(first), len(second)) and first[at] == second[at]:
            at += 1
        words = "lists of %d and %d differ from index %d on: %.200r.., %.200r.." % (
            len(first), len(second), at, first[at:at + 20], second[at:at + 20])
        self.fail(self._formatMessage(msg, words))


def put(place, numbers):
    return [1, place, len(numbers)] + list(numbers)


def take(place, n):
    return [2, place, n]


def set_(which, value):
    return [3, which, value]


def get(which):
    return [4, which]


def run(steps):
    return [5, steps]


def why():
    return [6]


def join(*calls):
    return [number for call in calls for number in call]


def split(answered):
    """The answers of each call, without the counts; fails if the counts don't add up."""
    rows = []
    at = 0
    while at < len(answered):
        end = at + 1 + answered[at]
        if answered[at] < 1 or end > len(answered):
            raise AssertionError("a count is wrong at %d" % at)
        rows.append(answered[at + 1:end])
        at = end
    return rows


def ask(*calls):
    return split(answers(join(*calls)))


def read_all():
    """take calls that go over the whole memory."""
    places = range(0, MEMORY_SIZE, MOST_TAKEN)
    return [take(place, min(MOST_TAKEN, MEMORY_SIZE - place)) for place in places]


def joined_rows(rows):
    """The bytes that take calls answered, one behind another."""
    for row in rows:
        if row[0] != 0:
            raise AssertionError("a take was refused")
    return [number for row in rows for number in row[1:]]


def pattern(n, start=1):
    """n bytes, none of them 0, neighbours all different."""
    return [(start + k) % 255 + 1 for k in range(n)]
