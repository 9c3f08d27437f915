"""Whole numbers as rows of bits."""

MASK_64 = 18446744073709551615


def wrap(number):
    """What 64 bits keep of a whole number."""
    return number & MASK_64


def field(word, low, width):
    return (word >> low) & ((1 << width) - 1)


def signed(number, width):
    """The lowest width bits, the highest of which is the sign."""
    lowest = field(number, 0, width)
    if field(number, width - 1, 1) == 1:
        return lowest - (1 << width)
    return lowest


def extend(number, width):
    """The lowest width bits as 64, with the sign in all those above."""
    return wrap(signed(number, width))


def gather(word, pieces):
    """A number from pieces of word: the lowest bit there, how many, and where the lowest goes."""
    number = 0
    for piece in pieces:
        number |= field(word, piece[0], piece[1]) << piece[2]
    return number
