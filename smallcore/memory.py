"""65536 bytes from address 0 on, the lowest byte of a number first."""

MEMORY_SIZE = 65536


class Memory:
    def __init__(self):
        self.cells = [0] * MEMORY_SIZE

    def holds(self, place, n):
        """Tell whether the n bytes from place on are all there; no bytes at the very end are."""
        return place >= 0 and n >= 0 and place + n <= MEMORY_SIZE

    def store_row(self, place, row):
        for offset, number in enumerate(row):
            self.cells[place + offset] = number

    def load_row(self, place, n):
        return self.cells[place:place + n]

    def store_number(self, place, n, number):
        self.store_row(place, [(number >> (8 * offset)) & 255 for offset in range(n)])

    def load_half(self, place):
        """Two bytes as a number: what every instruction is read by, so it goes without a loop."""
        return self.cells[place] | (self.cells[place + 1] << 8)

    def load_number(self, place, n):
        number = 0
        for offset in range(n):
            number |= self.cells[place + offset] << (8 * offset)
        return number
