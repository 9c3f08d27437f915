"""Runs code on a new machine through the desk, and tells what it left."""

from assembler import code
from lines import Case, ask, get, joined_rows, put, read_all, run, set_, why

START = 4096
WRAP = 2 ** 64
REGISTERS = {k: 0x1111111111111111 * (k % 15 + 1) ^ k << 20 for k in range(1, 32)}


def neg(number):
    """A number below 0, as 64 bits hold it."""
    return WRAP - number


def state_calls(whole=False):
    return [get(which) for which in range(33)] + [why()] + (read_all() if whole else [])


class State:
    def __init__(self, rows):
        self.registers = [row[1] for row in rows[:32]]
        self.pc = rows[32][1]
        self.why = rows[33][0]
        self.memory = joined_rows(rows[34:])


class Outcome(State):
    """How many were done, and the state behind them."""

    def __init__(self, rows):
        super().__init__(rows[1:])
        self.done = rows[0][0]


def start_calls(words, registers=None, pc=START, rows=None):
    """Calls that put words at pc, and rows (bytes by place), and set registers on top of REGISTERS."""
    values = dict(REGISTERS)
    values.update(registers or {})
    calls = [set_(which, value % WRAP) for which, value in values.items()]
    calls += [put(place, row) for place, row in (rows or {}).items()]
    calls += [put(pc, code(*words)), set_(32, pc)]
    return calls


def ran(words, registers=None, pc=START, rows=None, steps=1, whole=False):
    calls = start_calls(words, registers, pc, rows)
    return Outcome(ask(*calls, run(steps), *state_calls(whole))[len(calls):])


def expected_registers(registers, changed):
    values = [0] * 32
    for part in (REGISTERS, registers or {}, changed):
        for which, value in part.items():
            values[which] = value % WRAP
    values[0] = 0
    return values


class CodeCase(Case):
    def check_done(self, words, registers, changed, pc=None, start=START, rows=None, steps=1):
        """All steps are done: the registers are as before but for those changed; pc is behind the code or as told."""
        outcome = ran(words, registers, start, rows, steps)
        told = ([hex(word) for word in words], registers)
        self.assertEqual((outcome.done, outcome.why), (steps, 0), told)
        self.assertEqual(outcome.registers, expected_registers(registers, changed), told)
        self.assertEqual(outcome.pc, start + len(code(*words)) if pc is None else pc, told)

    def check_stop(self, reason, words, registers=None, start=START, rows=None, before=0):
        """The machine is stopped behind as many instructions as told, and the one that stops it does nothing."""
        told = ([hex(word) for word in words], registers, start)
        then = ran(words, registers, start, rows, before, True)
        self.assertEqual((then.done, then.why), (before, 0), told)
        for steps in (before + 1, 2 ** 40):
            outcome = ran(words, registers, start, rows, steps, True)
            self.assertEqual((outcome.done, outcome.why), (before, reason), told)
            self.assertEqual((outcome.registers, outcome.pc), (then.registers, then.pc), told)
            self.assertEqual(outcome.memory, then.memory, told)


def reasons(words, registers=None):
    """For each word, run alone at START with the registers set anew: how many were done, and why."""
    out = []
    values = dict(REGISTERS)
    values.update(registers or {})
    fresh = [set_(which, value % WRAP) for which, value in values.items()]
    for at in range(0, len(words), 10):
        part = words[at:at + 10]
        calls = [call for word in part for call in fresh + [put(START, code(word)), set_(32, START), run(1), why()]]
        rows = ask(*calls)
        size = len(calls) // len(part)
        out += [(rows[k * size + size - 2][0], rows[k * size + size - 1][0]) for k in range(len(part))]
    return out
