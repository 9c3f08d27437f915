"""Reads the instructions of 16 bits: those of C, as it is for 64 bits."""

from smallcore.bits import extend, field, gather
from smallcore.instruction import of_branch, of_immediate, of_jump, of_jump_to, of_load
from smallcore.instruction import of_registers, of_reserved, of_stop, of_store

LINK = 1
STACK_POINTER = 2

# The pieces of each immediate: lowest bit in the word, how many, lowest bit in the number.
PLAIN_PIECES = ((2, 5, 0), (12, 1, 5))
UPPER_PIECES = ((2, 5, 12), (12, 1, 17))
STACK_ADDRESS_PIECES = ((5, 1, 3), (6, 1, 2), (7, 4, 6), (11, 2, 4))
STACK_MOVE_PIECES = ((2, 1, 5), (3, 2, 7), (5, 1, 6), (6, 1, 4), (12, 1, 9))
WORD_PIECES = ((5, 1, 6), (6, 1, 2), (10, 3, 3))
DOUBLE_PIECES = ((5, 2, 6), (10, 3, 3))
STACK_LOAD_WORD_PIECES = ((2, 2, 6), (4, 3, 2), (12, 1, 5))
STACK_LOAD_DOUBLE_PIECES = ((2, 3, 6), (5, 2, 3), (12, 1, 5))
STACK_STORE_WORD_PIECES = ((7, 2, 6), (9, 4, 2))
STACK_STORE_DOUBLE_PIECES = ((7, 3, 6), (10, 3, 3))
JUMP_PIECES = ((2, 1, 5), (3, 3, 1), (6, 1, 7), (7, 1, 6), (8, 1, 10), (9, 2, 8), (11, 1, 4), (12, 1, 11))
BRANCH_PIECES = ((2, 1, 5), (3, 2, 1), (5, 2, 6), (10, 2, 3), (12, 1, 8))

# By bit 12 and bits 5 and 6.
REGISTERS = {(0, 0): "sub", (0, 1): "xor", (0, 2): "or", (0, 3): "and", (1, 0): "subw", (1, 1): "addw"}


def full_at_7(half):
    return field(half, 7, 5)


def full_at_2(half):
    return field(half, 2, 5)


# Three bits name one of the registers 8 to 15.
def small_at_7(half):
    return 8 + field(half, 7, 3)


def small_at_2(half):
    return 8 + field(half, 2, 3)


def plain_immediate(half):
    return extend(gather(half, PLAIN_PIECES), 6)


def shift_amount(half):
    return gather(half, PLAIN_PIECES)


def read_stack_address(half):
    immediate = gather(half, STACK_ADDRESS_PIECES)
    if immediate == 0:
        return of_reserved()
    return of_immediate("add", small_at_2(half), STACK_POINTER, immediate)


def read_load_word(half):
    return of_load("lw", small_at_2(half), small_at_7(half), gather(half, WORD_PIECES))


def read_load_double(half):
    return of_load("ld", small_at_2(half), small_at_7(half), gather(half, DOUBLE_PIECES))


def read_store_word(half):
    return of_store("sw", small_at_7(half), small_at_2(half), gather(half, WORD_PIECES))


def read_store_double(half):
    return of_store("sd", small_at_7(half), small_at_2(half), gather(half, DOUBLE_PIECES))


def read_add(half):
    return of_immediate("add", full_at_7(half), full_at_7(half), plain_immediate(half))


def read_add_32(half):
    if full_at_7(half) == 0:
        return of_reserved()
    return of_immediate("addw", full_at_7(half), full_at_7(half), plain_immediate(half))


def read_load_immediate(half):
    return of_immediate("add", full_at_7(half), 0, plain_immediate(half))


def read_stack_move(half):
    immediate = extend(gather(half, STACK_MOVE_PIECES), 10)
    if immediate == 0:
        return of_reserved()
    return of_immediate("add", STACK_POINTER, STACK_POINTER, immediate)


def read_upper(half):
    if full_at_7(half) == STACK_POINTER:
        return read_stack_move(half)
    immediate = extend(gather(half, UPPER_PIECES), 18)
    if immediate == 0:
        return of_reserved()
    return of_immediate("add", full_at_7(half), 0, immediate)


def read_small_registers(half):
    name = REGISTERS.get((field(half, 12, 1), field(half, 5, 2)))
    if name is None:
        return of_reserved()
    return of_registers(name, small_at_7(half), small_at_7(half), small_at_2(half))


def read_small(half):
    choice = field(half, 10, 2)
    target = small_at_7(half)
    if choice == 0:
        return of_immediate("srl", target, target, shift_amount(half))
    if choice == 1:
        return of_immediate("sra", target, target, shift_amount(half))
    if choice == 2:
        return of_immediate("and", target, target, plain_immediate(half))
    return read_small_registers(half)


def read_jump(half):
    return of_jump(0, extend(gather(half, JUMP_PIECES), 12))


def read_branch_equal(half):
    return of_branch("beq", small_at_7(half), 0, extend(gather(half, BRANCH_PIECES), 9))


def read_branch_not_equal(half):
    return of_branch("bne", small_at_7(half), 0, extend(gather(half, BRANCH_PIECES), 9))


def read_shift_left(half):
    return of_immediate("sll", full_at_7(half), full_at_7(half), shift_amount(half))


def read_stack_load_word(half):
    if full_at_7(half) == 0:
        return of_reserved()
    return of_load("lw", full_at_7(half), STACK_POINTER, gather(half, STACK_LOAD_WORD_PIECES))


def read_stack_load_double(half):
    if full_at_7(half) == 0:
        return of_reserved()
    return of_load("ld", full_at_7(half), STACK_POINTER, gather(half, STACK_LOAD_DOUBLE_PIECES))


def read_stack_store_word(half):
    return of_store("sw", STACK_POINTER, full_at_2(half), gather(half, STACK_STORE_WORD_PIECES))


def read_stack_store_double(half):
    return of_store("sd", STACK_POINTER, full_at_2(half), gather(half, STACK_STORE_DOUBLE_PIECES))


def read_move_or_jump(half):
    if full_at_2(half) != 0:
        return of_registers("add", full_at_7(half), 0, full_at_2(half))
    if full_at_7(half) == 0:
        return of_reserved()
    return of_jump_to(0, full_at_7(half), 0)


def read_add_or_call(half):
    if full_at_2(half) != 0:
        return of_registers("add", full_at_7(half), full_at_7(half), full_at_2(half))
    if full_at_7(half) == 0:
        return of_stop("ebreak")
    return of_jump_to(LINK, full_at_7(half), 0)


def read_full(half):
    if field(half, 12, 1) == 0:
        return read_move_or_jump(half)
    return read_add_or_call(half)


# By the lowest two bits and the highest three. Those for floating registers, and one that is reserved, aren't there.
READERS = {
    (0, 0): read_stack_address, (0, 2): read_load_word, (0, 3): read_load_double,
    (0, 6): read_store_word, (0, 7): read_store_double,
    (1, 0): read_add, (1, 1): read_add_32, (1, 2): read_load_immediate, (1, 3): read_upper,
    (1, 4): read_small, (1, 5): read_jump, (1, 6): read_branch_equal, (1, 7): read_branch_not_equal,
    (2, 0): read_shift_left, (2, 2): read_stack_load_word, (2, 3): read_stack_load_double,
    (2, 4): read_full, (2, 6): read_stack_store_word, (2, 7): read_stack_store_double,
}


def read_short(half):
    place = (field(half, 0, 2), field(half, 13, 3))
    if place not in READERS:
        return of_reserved()
    return READERS[place](half)
