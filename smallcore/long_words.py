"""Reads the instructions of 32 bits: those of RV64I and of M."""

from smallcore.bits import extend, field, gather
from smallcore.instruction import of_branch, of_immediate, of_jump, of_jump_to, of_load, of_nothing, of_pc
from smallcore.instruction import of_registers, of_reserved, of_stop, of_store

# The pieces of each immediate: lowest bit in the word, how many, lowest bit in the number.
PLAIN_PIECES = ((20, 12, 0),)
STORE_PIECES = ((7, 5, 0), (25, 7, 5))
BRANCH_PIECES = ((8, 4, 1), (25, 6, 5), (7, 1, 11), (31, 1, 12))
UPPER_PIECES = ((12, 20, 12),)
JUMP_PIECES = ((21, 10, 1), (20, 1, 11), (12, 8, 12), (31, 1, 20))

LOADS = {0: "lb", 1: "lh", 2: "lw", 3: "ld", 4: "lbu", 5: "lhu", 6: "lwu"}
STORES = {0: "sb", 1: "sh", 2: "sw", 3: "sd"}
BRANCHES = {0: "beq", 1: "bne", 4: "blt", 5: "bge", 6: "bltu", 7: "bgeu"}
IMMEDIATES = {0: "add", 2: "slt", 3: "sltu", 4: "xor", 6: "or", 7: "and"}
# By the bits above the shift, 6 of them, or 7 for the 32-bit ones, and by the three that tell instructions apart.
SHIFTS = {(0, 1): "sll", (0, 5): "srl", (16, 5): "sra"}
SHIFTS_32 = {(0, 1): "sllw", (0, 5): "srlw", (32, 5): "sraw"}
# By the highest 7 bits, and by the three.
REGISTERS = {
    (0, 0): "add", (0, 1): "sll", (0, 2): "slt", (0, 3): "sltu",
    (0, 4): "xor", (0, 5): "srl", (0, 6): "or", (0, 7): "and",
    (32, 0): "sub", (32, 5): "sra",
    (1, 0): "mul", (1, 1): "mulh", (1, 2): "mulhsu", (1, 3): "mulhu",
    (1, 4): "div", (1, 5): "divu", (1, 6): "rem", (1, 7): "remu",
}
REGISTERS_32 = {
    (0, 0): "addw", (0, 1): "sllw", (0, 5): "srlw", (32, 0): "subw", (32, 5): "sraw",
    (1, 0): "mulw", (1, 4): "divw", (1, 5): "divuw", (1, 6): "remw", (1, 7): "remuw",
}
SYSTEM_STOPS = {0x00000073: "ecall", 0x00100073: "ebreak"}


def target_of(word):
    return field(word, 7, 5)


def three_of(word):
    return field(word, 12, 3)


def first_of(word):
    return field(word, 15, 5)


def second_of(word):
    return field(word, 20, 5)


def plain_immediate(word):
    return extend(gather(word, PLAIN_PIECES), 12)


def upper_immediate(word):
    return extend(gather(word, UPPER_PIECES), 32)


def read_upper(word):
    # Register 0 is 0: added to it, the immediate stays what it is.
    return of_immediate("add", target_of(word), 0, upper_immediate(word))


def read_upper_of_pc(word):
    return of_pc(target_of(word), upper_immediate(word))


def read_jump(word):
    return of_jump(target_of(word), extend(gather(word, JUMP_PIECES), 21))


def read_jump_to(word):
    if three_of(word) != 0:
        return of_reserved()
    return of_jump_to(target_of(word), first_of(word), plain_immediate(word))


def read_branch(word):
    name = BRANCHES.get(three_of(word))
    if name is None:
        return of_reserved()
    return of_branch(name, first_of(word), second_of(word), extend(gather(word, BRANCH_PIECES), 13))


def read_load(word):
    name = LOADS.get(three_of(word))
    if name is None:
        return of_reserved()
    return of_load(name, target_of(word), first_of(word), plain_immediate(word))


def read_store(word):
    name = STORES.get(three_of(word))
    if name is None:
        return of_reserved()
    return of_store(name, first_of(word), second_of(word), extend(gather(word, STORE_PIECES), 12))


def read_shift(word):
    name = SHIFTS.get((field(word, 26, 6), three_of(word)))
    if name is None:
        return of_reserved()
    return of_immediate(name, target_of(word), first_of(word), field(word, 20, 6))


def read_shift_32(word):
    name = SHIFTS_32.get((field(word, 25, 7), three_of(word)))
    if name is None:
        return of_reserved()
    return of_immediate(name, target_of(word), first_of(word), field(word, 20, 5))


def read_immediate(word):
    name = IMMEDIATES.get(three_of(word))
    if name is None:
        return read_shift(word)
    return of_immediate(name, target_of(word), first_of(word), plain_immediate(word))


def read_immediate_32(word):
    if three_of(word) != 0:
        return read_shift_32(word)
    return of_immediate("addw", target_of(word), first_of(word), plain_immediate(word))


def read_registers(word):
    name = REGISTERS.get((field(word, 25, 7), three_of(word)))
    if name is None:
        return of_reserved()
    return of_registers(name, target_of(word), first_of(word), second_of(word))


def read_registers_32(word):
    name = REGISTERS_32.get((field(word, 25, 7), three_of(word)))
    if name is None:
        return of_reserved()
    return of_registers(name, target_of(word), first_of(word), second_of(word))


def read_fence(word):
    # FENCE.I, which has a 1 here, is not among the instructions.
    if three_of(word) != 0:
        return of_reserved()
    return of_nothing()


def read_system(word):
    name = SYSTEM_STOPS.get(word)
    if name is None:
        return of_reserved()
    return of_stop(name)


# By the lowest 7 bits.
READERS = {
    0x03: read_load, 0x0f: read_fence, 0x13: read_immediate, 0x17: read_upper_of_pc, 0x1b: read_immediate_32,
    0x23: read_store, 0x33: read_registers, 0x37: read_upper, 0x3b: read_registers_32,
    0x63: read_branch, 0x67: read_jump_to, 0x6f: read_jump, 0x73: read_system,
}


def read_long(word):
    opcode = field(word, 0, 7)
    if opcode not in READERS:
        return of_reserved()
    return READERS[opcode](word)
