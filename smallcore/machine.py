"""The machine: 65536 bytes, 32 numbers of 64 bits, and a place in the program.

Each call gives back the numbers that it answers, the first one first.
"""

MEMORY_SIZE = 65536
REGISTER_COUNT = 32
PC_NUMBER = 32
DONE = 0
REFUSED = -1


def lies_in_memory(place, n):
    """Tell whether the n bytes from place on are all there; no bytes at the very end are."""
    return place >= 0 and n >= 0 and place + n <= MEMORY_SIZE


class Machine:
    def __init__(self):
        self.memory = [0] * MEMORY_SIZE
        self.registers = [0] * REGISTER_COUNT
        self.pc = 0

    def put(self, place, row):
        # Asked ahead of the first byte, as a refused put changes none.
        if not lies_in_memory(place, len(row)):
            return [REFUSED]
        for offset, number in enumerate(row):
            self.memory[place + offset] = number
        return [DONE]

    def take(self, place, n):
        if not lies_in_memory(place, n):
            return [REFUSED]
        return [DONE] + self.memory[place:place + n]

    def set_value(self, which, value):
        if which == PC_NUMBER:
            return self.set_pc(value)
        if which < 0 or which >= REGISTER_COUNT:
            return [REFUSED]
        # Number 0 is answered like the others, but it stays 0.
        if which != 0:
            self.registers[which] = value
        return [DONE]

    def set_pc(self, value):
        if value % 2 != 0:
            return [REFUSED]
        self.pc = value
        return [DONE]
