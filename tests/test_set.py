"""Point 2, as far as it speaks of set."""

import unittest

from lines import HIGHEST, LOWEST, MOST_VALUE, Case, ask, put, set_, take
from smallcore.machine import Machine

VALUES = (0, 1, 2, 255, 65536, 2 ** 31, 2 ** 32 - 1, 2 ** 63 - 1, 2 ** 63, MOST_VALUE - 1, MOST_VALUE)
OTHER_NUMBERS = (33, 34, 63, 64, 65536, HIGHEST, -1, -2, -31, -32, -33, LOWEST)


class SetAnswers(Case):
    def test_every_number_from_0_to_31(self):
        for which in range(32):
            for value in VALUES:
                self.assertEqual(ask(set_(which, value)), [[0]], (which, value))

    def test_pc_of_an_even_value(self):
        for value in (0, 2, 4, 65534, 65536, 2 ** 63, MOST_VALUE - 1):
            self.assertEqual(ask(set_(32, value)), [[0]], value)

    def test_pc_of_an_odd_value(self):
        for value in (1, 3, 65535, 65537, 2 ** 63 - 1, 2 ** 63 + 1, MOST_VALUE):
            self.assertEqual(ask(set_(32, value)), [[-1]], value)

    def test_every_other_number(self):
        for which in OTHER_NUMBERS:
            for value in VALUES:
                self.assertEqual(ask(set_(which, value)), [[-1]], (which, value))

    def test_set_leaves_memory_alone(self):
        sets = [set_(which, MOST_VALUE - 1) for which in range(-1, 34)]
        rows = ask(put(0, [1, 2, 3]), *sets, take(0, 300))
        self.assertEqual(rows[-1], [0, 1, 2, 3] + [0] * 297)


class SetChanges(Case):
    """What set does to the machine itself."""

    def filled(self):
        machine = Machine()
        for which in range(32):
            machine.set_value(which, 1000 + which)
        machine.set_value(32, 500)
        return machine

    def check(self, machine, registers, pc):
        self.assertEqual(machine.registers, registers)
        self.assertEqual(machine.pc, pc)

    def test_a_new_machine_is_all_0(self):
        self.check(Machine(), [0] * 32, 0)

    def test_each_holds_its_own_value(self):
        self.check(self.filled(), [0] + list(range(1001, 1032)), 500)

    def test_one_set_changes_one(self):
        for which in range(1, 32):
            for value in VALUES:
                machine = self.filled()
                expected = list(machine.registers)
                expected[which] = value
                self.assertEqual(machine.set_value(which, value), [0])
                self.check(machine, expected, 500)

    def test_the_first_stays_0(self):
        for value in VALUES:
            machine = self.filled()
            expected = list(machine.registers)
            self.assertEqual(machine.set_value(0, value), [0])
            self.check(machine, expected, 500)
            self.assertEqual(machine.registers[0], 0)

    def test_pc_is_the_even_value(self):
        for value in (0, 2, 65536, MOST_VALUE - 1):
            machine = self.filled()
            expected = list(machine.registers)
            self.assertEqual(machine.set_value(32, value), [0])
            self.check(machine, expected, value)

    def test_a_refused_set_changes_nothing(self):
        refused = [(32, 1), (32, 501), (32, MOST_VALUE)]
        refused += [(which, value) for which in OTHER_NUMBERS for value in VALUES]
        for which, value in refused:
            machine = self.filled()
            expected = list(machine.registers)
            self.assertEqual(machine.set_value(which, value), [-1])
            self.check(machine, expected, 500)
            self.assertEqual(machine.memory, [0] * 65536)


if __name__ == "__main__":
    unittest.main()
