"""What instructions work out of two numbers of 64 bits, by the instruction's name."""

from smallcore.bits import extend, field, signed, wrap


def add(a, b):
    return wrap(a + b)


def subtract(a, b):
    return wrap(a - b)


def bit_and(a, b):
    return a & b


def bit_or(a, b):
    return a | b


def bit_xor(a, b):
    return a ^ b


# A shift is by the lowest 6 bits of the second number (5 for the 32-bit ones), whatever stands above them.
def shift_left(a, b):
    return wrap(a << field(b, 0, 6))


def shift_right(a, b):
    return a >> field(b, 0, 6)


def shift_right_signed(a, b):
    return wrap(signed(a, 64) >> field(b, 0, 6))


def is_less(a, b):
    return 1 if a < b else 0


def is_less_signed(a, b):
    return is_less(signed(a, 64), signed(b, 64))


def add_32(a, b):
    return extend(a + b, 32)


def subtract_32(a, b):
    return extend(a - b, 32)


def shift_left_32(a, b):
    return extend(a << field(b, 0, 5), 32)


def shift_right_32(a, b):
    return extend(field(a, 0, 32) >> field(b, 0, 5), 32)


def shift_right_signed_32(a, b):
    return wrap(signed(a, 32) >> field(b, 0, 5))


def multiply(a, b):
    return wrap(a * b)


def multiply_high(a, b):
    return (a * b) >> 64


def multiply_high_signed(a, b):
    return wrap((signed(a, 64) * signed(b, 64)) >> 64)


def multiply_high_mixed(a, b):
    return wrap((signed(a, 64) * b) >> 64)


def multiply_32(a, b):
    return extend(a * b, 32)


def quotient(a, b):
    """Rounded towards 0, as Python's own is not; all bits are 1 where b is 0."""
    if b == 0:
        return -1
    size = abs(a) // abs(b)
    if (a < 0) != (b < 0):
        return -size
    return size


def remainder(a, b):
    """What is left of a; all of it where b is 0."""
    return a - b * quotient(a, b)


# The least number by -1 gives one that is too great by 1: wrapped, it is the least number again, as it has to be.
def divide(a, b):
    return wrap(quotient(a, b))


def divide_signed(a, b):
    return wrap(quotient(signed(a, 64), signed(b, 64)))


def remainder_signed(a, b):
    return wrap(remainder(signed(a, 64), signed(b, 64)))


def divide_32(a, b):
    return extend(quotient(field(a, 0, 32), field(b, 0, 32)), 32)


def divide_signed_32(a, b):
    return extend(quotient(signed(a, 32), signed(b, 32)), 32)


def remainder_32(a, b):
    return extend(remainder(field(a, 0, 32), field(b, 0, 32)), 32)


def remainder_signed_32(a, b):
    return extend(remainder(signed(a, 32), signed(b, 32)), 32)


RESULTS = {
    "add": add, "sub": subtract, "and": bit_and, "or": bit_or, "xor": bit_xor,
    "sll": shift_left, "srl": shift_right, "sra": shift_right_signed,
    "slt": is_less_signed, "sltu": is_less,
    "addw": add_32, "subw": subtract_32,
    "sllw": shift_left_32, "srlw": shift_right_32, "sraw": shift_right_signed_32,
    "mul": multiply, "mulh": multiply_high_signed, "mulhsu": multiply_high_mixed, "mulhu": multiply_high,
    "div": divide_signed, "divu": divide, "rem": remainder_signed, "remu": remainder,
    "mulw": multiply_32,
    "divw": divide_signed_32, "divuw": divide_32, "remw": remainder_signed_32, "remuw": remainder_32,
}


def compute(name, a, b):
    return RESULTS[name](a, b)


def branch_holds(name, a, b):
    if name == "beq":
        return a == b
    if name == "bne":
        return a != b
    if name == "bltu":
        return a < b
    if name == "bgeu":
        return a >= b
    if name == "blt":
        return signed(a, 64) < signed(b, 64)
    return signed(a, 64) >= signed(b, 64)
