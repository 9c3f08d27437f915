"""Reads a list of whole numbers from its start on, and never changes it."""


class Reader:
    def __init__(self, numbers):
        self.numbers = numbers
        self.at = 0

    def has_more(self):
        return self.at < len(self.numbers)

    def read_number(self):
        number = self.numbers[self.at]
        self.at += 1
        return number

    def read_row(self):
        """Read a row that has how many numbers it holds before it."""
        length = self.read_number()
        row = []
        while len(row) < length:
            row.append(self.read_number())
        return row
