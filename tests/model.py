"""A second machine, written another way, that the program is held against.

It finds an instruction by going through the rows of the assembler, and turns a short one into its long one.
"""

import ctypes
from fractions import Fraction

from assembler import LONG, PIECES, SHORT

MASK = 2 ** 64 - 1
# Where one word fits several rows, the one that stands first here is meant.
ORDER = ["c.ebreak", "c.jr", "c.jalr", "c.mv", "c.add", "c.addi16sp"]
ORDER += [name for name in SHORT if name not in ORDER]
UNSIGNED = """c.addi4spn c.lw c.ld c.sw c.sd c.lwsp c.ldsp c.swsp c.sdsp c.srli c.srai c.slli
    slli srli srai slliw srliw sraiw""".split()
RESERVED = {
    "c.addi4spn": lambda f: f["imm"] == 0,
    "c.addi16sp": lambda f: f["imm"] == 0,
    "c.lui": lambda f: f["imm"] == 0,
    "c.addiw": lambda f: f["rd"] == 0,
    "c.lwsp": lambda f: f["rd"] == 0,
    "c.ldsp": lambda f: f["rd"] == 0,
    "c.jr": lambda f: f["rs1"] == 0,
}


def row_masks(name):
    mask = value = 0
    for bit, k in PIECES[name]:
        mask = mask << 1 | (k is None)
        value = value << 1 | (k is None and bit == "1")
    return mask, value


MASKS = {name: row_masks(name) for name in [*LONG, *ORDER]}


def read_fields(name, number):
    fields = {}
    size = len(PIECES[name])
    for at, (field, k) in enumerate(PIECES[name]):
        if k is not None:
            plain = field.rstrip("'")
            fields.setdefault(plain, 8 if field.endswith("'") else 0)
            fields[plain] += (number >> (size - 1 - at) & 1) << k
    if "imm" in fields and name not in UNSIGNED:
        top = max(k for field, k in PIECES[name] if field == "imm")
        fields["imm"] -= (fields["imm"] >> top & 1) << top + 1
    return fields


def find(number):
    """The name and the fields of a word, or None if it is no instruction or reserved."""
    for name in LONG if number % 4 == 3 else ORDER:
        mask, value = MASKS[name]
        if number & mask == value:
            fields = read_fields(name, number)
            if name in RESERVED and RESERVED[name](fields):
                return None
            return name, fields
    return None


EXPANDED = {
    "c.addi4spn": lambda f: ("addi", {"rs1": 2, **f}),
    "c.addi": lambda f: ("addi", {"rs1": f["rd"], **f}),
    "c.addiw": lambda f: ("addiw", {"rs1": f["rd"], **f}),
    "c.li": lambda f: ("addi", {"rs1": 0, **f}),
    "c.addi16sp": lambda f: ("addi", {"rd": 2, "rs1": 2, **f}),
    "c.j": lambda f: ("jal", {"rd": 0, **f}),
    "c.beqz": lambda f: ("beq", {"rs2": 0, **f}),
    "c.bnez": lambda f: ("bne", {"rs2": 0, **f}),
    "c.lwsp": lambda f: ("lw", {"rs1": 2, **f}),
    "c.ldsp": lambda f: ("ld", {"rs1": 2, **f}),
    "c.swsp": lambda f: ("sw", {"rs1": 2, **f}),
    "c.sdsp": lambda f: ("sd", {"rs1": 2, **f}),
    "c.jr": lambda f: ("jalr", {"rd": 0, "imm": 0, **f}),
    "c.jalr": lambda f: ("jalr", {"rd": 1, "imm": 0, **f}),
    "c.mv": lambda f: ("add", {"rs1": 0, **f}),
    "c.ebreak": lambda f: ("ebreak", f),
    "c.lui": lambda f: ("lui", f),
}
for same in ("slli", "srli", "srai", "andi", "sub", "xor", "or", "and", "subw", "addw", "add"):
    EXPANDED["c." + same] = lambda f, same=same: (same, {"rs1": f["rd"], **f})
for same in ("lw", "ld", "sw", "sd"):
    EXPANDED["c." + same] = lambda f, same=same: (same, f)


def s64(number):
    return ctypes.c_int64(number).value


def s32(number):
    return ctypes.c_int32(number).value


def u32(number):
    return ctypes.c_uint32(number).value


def truncated(a, b):
    return -1 if b == 0 else int(Fraction(a, b))


def left_over(a, b):
    return a if b == 0 else a - b * truncated(a, b)


RESULTS = {
    "add": lambda a, b: a + b,
    "sub": lambda a, b: a - b,
    "and": lambda a, b: a & b,
    "or": lambda a, b: a | b,
    "xor": lambda a, b: a ^ b,
    "slt": lambda a, b: int(s64(a) < s64(b)),
    "sltu": lambda a, b: int(a < b),
    "sll": lambda a, b: a * 2 ** (b % 64),
    "srl": lambda a, b: a // 2 ** (b % 64),
    "sra": lambda a, b: s64(a) // 2 ** (b % 64),
    "addw": lambda a, b: s32(a + b),
    "subw": lambda a, b: s32(a - b),
    "sllw": lambda a, b: s32(a * 2 ** (b % 32)),
    "srlw": lambda a, b: s32(u32(a) // 2 ** (b % 32)),
    "sraw": lambda a, b: s32(a) // 2 ** (b % 32),
    "mul": lambda a, b: a * b,
    "mulh": lambda a, b: s64(a) * s64(b) // 2 ** 64,
    "mulhu": lambda a, b: a * b // 2 ** 64,
    "mulhsu": lambda a, b: s64(a) * b // 2 ** 64,
    "div": lambda a, b: truncated(s64(a), s64(b)),
    "divu": lambda a, b: truncated(a, b),
    "rem": lambda a, b: left_over(s64(a), s64(b)),
    "remu": lambda a, b: left_over(a, b),
    "mulw": lambda a, b: s32(a * b),
    "divw": lambda a, b: s32(truncated(s32(a), s32(b))),
    "divuw": lambda a, b: s32(truncated(u32(a), u32(b))),
    "remw": lambda a, b: s32(left_over(s32(a), s32(b))),
    "remuw": lambda a, b: s32(left_over(u32(a), u32(b))),
}
OF_IMMEDIATE = {
    "addi": "add", "slti": "slt", "sltiu": "sltu", "xori": "xor", "ori": "or", "andi": "and",
    "slli": "sll", "srli": "srl", "srai": "sra", "addiw": "addw", "slliw": "sllw", "srliw": "srlw", "sraiw": "sraw",
}
BRANCHES = {
    "beq": lambda a, b: a == b, "bne": lambda a, b: a != b, "bltu": lambda a, b: a < b, "bgeu": lambda a, b: a >= b,
    "blt": lambda a, b: s64(a) < s64(b), "bge": lambda a, b: s64(a) >= s64(b),
}
LOADS = {
    "lb": (1, True), "lh": (2, True), "lw": (4, True), "ld": (8, True),
    "lbu": (1, False), "lhu": (2, False), "lwu": (4, False),
}
STORES = {"sb": 1, "sh": 2, "sw": 4, "sd": 8}


class Model:
    def __init__(self):
        self.x = [0] * 32
        self.pc = 0
        self.memory = bytearray(65536)
        self.why = 0

    def set(self, which, value):
        if which:
            self.x[which] = value & MASK

    def read(self, place, n):
        """A number, or None where it's not all in memory."""
        return int.from_bytes(self.memory[place:place + n], "little") if place + n <= 65536 else None

    def run(self, steps):
        for done in range(steps):
            self.why = self.step()
            if self.why:
                return done
        self.why = 0
        return steps

    def step(self):
        number = self.read(self.pc, 2)
        if number is not None and number % 4 == 3:
            number = self.read(self.pc, 4)
        if number is None:
            return 4
        found = find(number)
        if found is None:
            return 3
        name, fields = found
        behind = self.pc + (4 if name in LONG else 2)
        if name in SHORT:
            name, fields = EXPANDED[name](fields)
        if name in ("ecall", "ebreak"):
            return ("ecall", "ebreak").index(name) + 1
        return self.do(name, fields, behind)

    def do(self, name, fields, behind):
        a = self.x[fields.get("rs1", 0)]
        b = self.x[fields.get("rs2", 0)]
        target = fields.get("rd")
        immediate = fields.get("imm", 0)
        place = a + immediate & MASK
        going = behind
        if name in RESULTS:
            self.set(target, RESULTS[name](a, b))
        elif name in OF_IMMEDIATE:
            self.set(target, RESULTS[OF_IMMEDIATE[name]](a, immediate & MASK))
        elif name in LOADS:
            if self.read(place, LOADS[name][0]) is None:
                return 4
            n, sign = LOADS[name]
            self.set(target, int.from_bytes(self.memory[place:place + n], "little", signed=sign))
        elif name in STORES:
            if self.read(place, STORES[name]) is None:
                return 4
            self.memory[place:place + STORES[name]] = b.to_bytes(8, "little")[:STORES[name]]
        elif name in BRANCHES:
            going = self.pc + immediate if BRANCHES[name](a, b) else behind
        elif name == "jal":
            going = self.pc + immediate
            self.set(target, behind)
        elif name == "jalr":
            going = place & ~1
            self.set(target, behind)
        elif name == "lui":
            self.set(target, immediate)
        elif name == "auipc":
            self.set(target, self.pc + immediate)
        elif name != "fence":
            raise AssertionError(name)
        self.pc = going & MASK
        return 0
