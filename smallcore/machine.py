"""The machine: a memory, 32 numbers of 64 bits, and a place in the program.

Each call gives back the numbers that it answers, the first one first.
"""

from smallcore.execute import NOT_STOPPED, do_next
from smallcore.memory import Memory

REGISTER_COUNT = 32
PC_NUMBER = 32
MOST_STEPS = 1099511627776
DONE = 0
REFUSED = -1


class Machine:
    def __init__(self):
        self.memory = Memory()
        self.registers = [0] * REGISTER_COUNT
        self.pc = 0
        self.reason = NOT_STOPPED
        self.known_words = {}

    def put(self, place, row):
        # Asked ahead of the first byte, as a refused put changes none.
        if not self.memory.holds(place, len(row)):
            return [REFUSED]
        self.memory.store_row(place, row)
        return [DONE]

    def take(self, place, n):
        if not self.memory.holds(place, n):
            return [REFUSED]
        return [DONE] + self.memory.load_row(place, n)

    def set_value(self, which, value):
        if which == PC_NUMBER:
            return self.set_pc(value)
        if which < 0 or which >= REGISTER_COUNT:
            return [REFUSED]
        self.write_register(which, value)
        return [DONE]

    def set_pc(self, value):
        if value % 2 != 0:
            return [REFUSED]
        self.pc = value
        return [DONE]

    def write_register(self, which, value):
        # Number 0 may be written like the others, but it stays 0.
        if which != 0:
            self.registers[which] = value

    def get_value(self, which):
        if which == PC_NUMBER:
            return [DONE, self.pc]
        if which < 0 or which >= REGISTER_COUNT:
            return [REFUSED]
        return [DONE, self.registers[which]]

    def run(self, steps):
        # A refused run is no run: what ended the one before is still told.
        if steps < 0 or steps > MOST_STEPS:
            return [REFUSED]
        self.reason = NOT_STOPPED
        done = 0
        while done < steps and self.reason == NOT_STOPPED:
            self.reason = do_next(self)
            if self.reason == NOT_STOPPED:
                done += 1
        return [done]

    def why(self):
        return [self.reason]
