"""Point 3: what the instructions of RV64I and M work out of registers and immediates."""

import unittest

from assembler import word
from program import START, CodeCase, neg

LEAST = 2 ** 63
MOST = 2 ** 63 - 1
ALL = 2 ** 64 - 1
# The least and the greatest of 32 bits, as 64 bits hold them.
LEAST_32 = neg(2 ** 31)
MOST_32 = 2 ** 31 - 1

# name, the first register, the second one, what the target holds then.
OF_REGISTERS = (
    ("add", 5, 7, 12), ("add", ALL, 1, 0), ("add", MOST, 1, LEAST), ("add", LEAST, LEAST, 0), ("add", ALL, ALL, neg(2)),
    ("add", 0xffffffff, 1, 0x100000000), ("add", 0x7fffffff, 1, 0x80000000), ("add", 0, 0, 0),
    ("sub", 7, 5, 2), ("sub", 5, 7, neg(2)), ("sub", 0, 1, ALL), ("sub", LEAST, 1, MOST), ("sub", 0, LEAST, LEAST),
    ("sub", 9, 9, 0), ("sub", 0x100000000, 1, 0xffffffff),
    ("and", 12, 10, 8), ("and", ALL, LEAST, LEAST), ("and", ALL, 0, 0), ("and", 0xff00ff00ff00ff00, 0xfff, 0xf00),
    ("or", 12, 10, 14), ("or", LEAST, 1, LEAST + 1), ("or", ALL, 0, ALL),
    ("or", 0xff00000000000000, 0xff, 0xff000000000000ff),
    ("xor", 12, 10, 6), ("xor", ALL, 1, neg(2)), ("xor", ALL, ALL, 0), ("xor", LEAST, ALL, MOST),
    ("slt", 1, 2, 1), ("slt", 2, 1, 0), ("slt", 2, 2, 0), ("slt", ALL, 0, 1), ("slt", 0, ALL, 0),
    ("slt", LEAST, MOST, 1),
    ("slt", MOST, LEAST, 0), ("slt", neg(2), ALL, 1), ("slt", ALL, neg(2), 0), ("slt", 0x80000000, 0, 0),
    ("sltu", 1, 2, 1), ("sltu", 2, 1, 0), ("sltu", 2, 2, 0), ("sltu", ALL, 0, 0), ("sltu", 0, ALL, 1),
    ("sltu", LEAST, MOST, 0), ("sltu", MOST, LEAST, 1), ("sltu", 0, 1, 1), ("sltu", 0, 0, 0),
    ("sll", 3, 0, 3), ("sll", 3, 1, 6), ("sll", 1, 31, 0x80000000), ("sll", 1, 32, 0x100000000), ("sll", 1, 63, LEAST),
    ("sll", 3, 63, LEAST), ("sll", 3, 64, 3), ("sll", 3, 65, 6), ("sll", 3, ALL, LEAST), ("sll", 3, LEAST, 3),
    ("sll", 3, 0x100000001, 6), ("sll", ALL, 4, neg(16)),
    ("srl", 12, 0, 12), ("srl", 12, 2, 3), ("srl", ALL, 31, 0x1ffffffff), ("srl", ALL, 32, 0xffffffff),
    ("srl", ALL, 63, 1),
    ("srl", ALL, 64, ALL), ("srl", LEAST, 65, 2 ** 62), ("srl", LEAST, ALL, 1), ("srl", LEAST, LEAST, LEAST),
    ("srl", 12, 0x7fffffff00000042, 3),
    ("sra", 12, 0, 12), ("sra", 12, 2, 3), ("sra", ALL, 31, ALL), ("sra", LEAST, 31, 0xffffffff00000000),
    ("sra", LEAST, 32, LEAST_32), ("sra", LEAST, 63, ALL), ("sra", MOST, 63, 0), ("sra", LEAST, 64, LEAST),
    ("sra", LEAST, 65, 0xc000000000000000), ("sra", LEAST, ALL, ALL), ("sra", MOST, 62, 1),
    ("sra", 0x80000000, 4, 0x8000000),
    ("addw", 5, 7, 12), ("addw", MOST_32, 1, LEAST_32), ("addw", 0xffffffff, 1, 0), ("addw", 0x100000005, 7, 12),
    ("addw", LEAST_32, ALL, MOST_32), ("addw", 0x80000000, 0, LEAST_32), ("addw", ALL, ALL, neg(2)),
    ("addw", 0x1234567880000000, 0x8765432100000000, LEAST_32), ("addw", LEAST, LEAST, 0),
    ("subw", 7, 5, 2), ("subw", 5, 7, neg(2)), ("subw", LEAST_32, 1, MOST_32), ("subw", 0, LEAST_32, LEAST_32),
    ("subw", 0x100000000, 1, ALL), ("subw", 0x80000000, 0, LEAST_32), ("subw", 0x700000003, 0x900000001, 2),
    ("sllw", 3, 0, 3), ("sllw", 3, 1, 6), ("sllw", 1, 31, LEAST_32), ("sllw", 3, 31, LEAST_32), ("sllw", 3, 32, 3),
    ("sllw", 3, 33, 6), ("sllw", 3, 63, LEAST_32), ("sllw", 3, 64, 3), ("sllw", 3, ALL, LEAST_32),
    ("sllw", 0xffffffff80000001, 1, 2), ("sllw", 0x80000000, 0, LEAST_32), ("sllw", 0x40000000, 1, LEAST_32),
    ("srlw", 12, 0, 12), ("srlw", 12, 2, 3), ("srlw", ALL, 0, ALL), ("srlw", 0x80000000, 0, LEAST_32),
    ("srlw", ALL, 1, MOST_32),
    ("srlw", ALL, 31, 1), ("srlw", ALL, 32, ALL), ("srlw", LEAST_32, 63, 1), ("srlw", ALL, 64, ALL),
    ("srlw", ALL, 65, MOST_32),
    ("srlw", 0x1200000008, 3, 1), ("srlw", LEAST, 1, 0),
    ("sraw", 12, 0, 12), ("sraw", 12, 2, 3), ("sraw", 0x80000000, 0, LEAST_32), ("sraw", 0x80000000, 31, ALL),
    ("sraw", LEAST_32, 1, neg(2 ** 30)), ("sraw", MOST_32, 31, 0), ("sraw", 0x80000000, 32, LEAST_32),
    ("sraw", 0x80000000, 63, ALL), ("sraw", 0x80000000, 65, neg(2 ** 30)), ("sraw", 0xf7fffffff, 4, 0x7ffffff),
    ("sraw", LEAST, 4, 0), ("sraw", ALL, ALL, ALL),
    ("mul", 6, 7, 42), ("mul", ALL, ALL, 1), ("mul", ALL, 5, neg(5)), ("mul", LEAST, 2, 0), ("mul", LEAST, ALL, LEAST),
    ("mul", 2 ** 32, 2 ** 32, 0), ("mul", 0xffffffff, 0xffffffff, 0xfffffffe00000001), ("mul", 9, 0, 0),
    ("mul", MOST, MOST, 1),
    ("mulh", 6, 7, 0), ("mulh", ALL, ALL, 0), ("mulh", ALL, 5, ALL), ("mulh", LEAST, LEAST, 2 ** 62),
    ("mulh", LEAST, ALL, 0),
    ("mulh", LEAST, 1, ALL), ("mulh", MOST, MOST, 2 ** 62 - 1), ("mulh", LEAST, MOST, 0xc000000000000000),
    ("mulh", 2 ** 32, 2 ** 32, 1), ("mulh", ALL, 0, 0), ("mulh", 2 ** 62, 4, 1), ("mulh", 1, ALL, ALL),
    ("mulhu", 6, 7, 0), ("mulhu", ALL, ALL, neg(2)), ("mulhu", ALL, 5, 4), ("mulhu", LEAST, LEAST, 2 ** 62),
    ("mulhu", LEAST, ALL, MOST), ("mulhu", LEAST, 2, 1), ("mulhu", MOST, MOST, 2 ** 62 - 1),
    ("mulhu", 2 ** 32, 2 ** 32, 1),
    ("mulhu", ALL, 1, 0), ("mulhu", ALL, 0, 0),
    ("mulhsu", 6, 7, 0), ("mulhsu", ALL, ALL, ALL), ("mulhsu", ALL, 5, ALL), ("mulhsu", 5, ALL, 4),
    ("mulhsu", LEAST, LEAST, 0xc000000000000000), ("mulhsu", LEAST, ALL, LEAST), ("mulhsu", MOST, ALL, MOST - 1),
    ("mulhsu", LEAST, 1, ALL), ("mulhsu", 1, LEAST, 0), ("mulhsu", 2, LEAST, 1), ("mulhsu", ALL, 0, 0),
    ("mulhsu", 0, ALL, 0),
    ("div", 43, 7, 6), ("div", neg(43), 7, neg(6)), ("div", 43, neg(7), neg(6)), ("div", neg(43), neg(7), 6),
    ("div", 6, 7, 0), ("div", neg(6), 7, 0), ("div", 42, 0, ALL), ("div", 0, 0, ALL), ("div", neg(42), 0, ALL),
    ("div", LEAST, 0, ALL),
    ("div", LEAST, ALL, LEAST), ("div", LEAST, 1, LEAST), ("div", LEAST, 2, 0xc000000000000000),
    ("div", MOST, ALL, LEAST + 1),
    ("div", LEAST, LEAST, 1), ("div", MOST, LEAST, 0), ("div", LEAST, MOST, ALL), ("div", LEAST_32, ALL, 2 ** 31),
    ("div", MOST, 10, 922337203685477580), ("div", LEAST, 10, neg(922337203685477580)), ("div", 0, 5, 0),
    ("divu", 43, 7, 6), ("divu", neg(43), 7, 2635249153387078796), ("divu", 43, neg(7), 0), ("divu", 42, 0, ALL),
    ("divu", 0, 0, ALL),
    ("divu", LEAST, 0, ALL), ("divu", LEAST, ALL, 0), ("divu", ALL, LEAST, 1), ("divu", ALL, ALL, 1),
    ("divu", ALL, 2, MOST),
    ("divu", ALL, 1, ALL), ("divu", LEAST, 2, 2 ** 62),
    ("rem", 43, 7, 1), ("rem", neg(43), 7, ALL), ("rem", 43, neg(7), 1), ("rem", neg(43), neg(7), ALL),
    ("rem", 6, 7, 6),
    ("rem", neg(6), 7, neg(6)), ("rem", 42, 0, 42), ("rem", neg(42), 0, neg(42)), ("rem", 0, 0, 0),
    ("rem", LEAST, 0, LEAST),
    ("rem", LEAST, ALL, 0), ("rem", LEAST, 1, 0), ("rem", LEAST, 10, neg(8)), ("rem", MOST, 10, 7),
    ("rem", LEAST, MOST, ALL),
    ("rem", MOST, LEAST, MOST), ("rem", 42, 7, 0),
    ("remu", 43, 7, 1), ("remu", neg(43), 7, 1), ("remu", 43, neg(7), 43), ("remu", 42, 0, 42), ("remu", ALL, 0, ALL),
    ("remu", 0, 0, 0), ("remu", LEAST, ALL, LEAST), ("remu", ALL, LEAST, MOST), ("remu", ALL, 10, 5),
    ("remu", ALL, ALL, 0),
    ("mulw", 6, 7, 42), ("mulw", ALL, 5, neg(5)), ("mulw", 0xffffffff, 0xffffffff, 1),
    ("mulw", 0x10000, 0x8000, LEAST_32),
    ("mulw", 0x10000, 0x10000, 0), ("mulw", LEAST_32, ALL, LEAST_32), ("mulw", 0xf00000003, 0xe00000005, 15),
    ("mulw", MOST_32, 2, neg(2)),
    ("divw", 43, 7, 6), ("divw", neg(43), 7, neg(6)), ("divw", 43, neg(7), neg(6)), ("divw", neg(43), neg(7), 6),
    ("divw", 42, 0, ALL),
    ("divw", neg(42), 0, ALL), ("divw", 42, 0x700000000, ALL), ("divw", LEAST_32, ALL, LEAST_32),
    ("divw", 0x80000000, 0xffffffff, LEAST_32), ("divw", 0x80000000, 1, LEAST_32),
    ("divw", 0x100000006, 0x500000002, 3),
    ("divw", LEAST, ALL, 0), ("divw", 0xfffffffe, 2, ALL), ("divw", LEAST_32, 0, ALL),
    ("divuw", 43, 7, 6), ("divuw", 42, 0, ALL), ("divuw", 0, 0, ALL), ("divuw", 42, 0xf00000000, ALL),
    ("divuw", ALL, 1, ALL),
    ("divuw", ALL, 2, MOST_32), ("divuw", 0x80000000, 1, LEAST_32), ("divuw", 0x80000000, 0xffffffff, 0),
    ("divuw", 0x100000006, 0x500000002, 3), ("divuw", LEAST_32, ALL, 0), ("divuw", 0xffffffff, 0x80000000, 1),
    ("remw", 43, 7, 1), ("remw", neg(43), 7, ALL), ("remw", 43, neg(7), 1), ("remw", neg(43), neg(7), ALL),
    ("remw", 42, 0, 42),
    ("remw", 0x80000000, 0, LEAST_32), ("remw", 0x1200000007, 0x3400000000, 7), ("remw", LEAST_32, ALL, 0),
    ("remw", 0x80000000, 0xffffffff, 0), ("remw", LEAST_32, 10, neg(8)), ("remw", 0x100000007, 0x500000004, 3),
    ("remuw", 43, 7, 1), ("remuw", 42, 0, 42), ("remuw", 0x80000000, 0, LEAST_32), ("remuw", 0x12ffffffff, 0, ALL),
    ("remuw", 0x80000000, 0xffffffff, LEAST_32), ("remuw", ALL, 10, 5), ("remuw", 0x100000007, 0x500000004, 3),
    ("remuw", LEAST_32, ALL, LEAST_32), ("remuw", 0xfffffffe, 0xffffffff, neg(2)),
)

# name, the first register, the immediate, what the target holds then.
OF_IMMEDIATES = (
    ("addi", 5, 7, 12), ("addi", 5, -7, neg(2)), ("addi", ALL, 1, 0), ("addi", 0, -1, ALL), ("addi", MOST, 1, LEAST),
    ("addi", LEAST, -1, MOST), ("addi", 10000, 2047, 12047), ("addi", 10000, -2048, 7952),
    ("addi", 0x7fffffff, 1, 0x80000000),
    ("addi", 5, 0, 5),
    ("slti", 1, 2, 1), ("slti", 2, 1, 0), ("slti", 2, 2, 0), ("slti", ALL, 0, 1), ("slti", 0, -1, 0),
    ("slti", LEAST, -2048, 1),
    ("slti", neg(2048), -2048, 0), ("slti", neg(2049), -2048, 1), ("slti", MOST, 2047, 0), ("slti", 2046, 2047, 1),
    ("sltiu", 1, 2, 1), ("sltiu", 2, 1, 0), ("sltiu", 0, 1, 1), ("sltiu", 1, 1, 0), ("sltiu", 5, -1, 1),
    ("sltiu", ALL, -1, 0),
    ("sltiu", neg(2), -1, 1), ("sltiu", neg(2049), -2048, 1), ("sltiu", neg(2048), -2048, 0), ("sltiu", LEAST, 2047, 0),
    ("sltiu", 0x800, -2048, 1),
    ("xori", 12, 10, 6), ("xori", 0, -1, ALL), ("xori", ALL, -1, 0), ("xori", LEAST, -2048, 0x7ffffffffffff800),
    ("xori", 0, 2047, 2047), ("xori", 9, 0, 9),
    ("ori", 12, 10, 14), ("ori", 1, -2048, neg(2047)), ("ori", LEAST, 2047, LEAST + 2047), ("ori", 0, -1, ALL),
    ("ori", 9, 0, 9),
    ("andi", 12, 10, 8), ("andi", ALL, -2048, neg(2048)), ("andi", ALL, 2047, 2047), ("andi", LEAST + 5, -1, LEAST + 5),
    ("andi", 9, 0, 0),
    ("slli", 3, 0, 3), ("slli", 3, 1, 6), ("slli", 1, 31, 0x80000000), ("slli", 1, 32, 0x100000000),
    ("slli", 3, 63, LEAST),
    ("slli", ALL, 33, 0xfffffffe00000000),
    ("srli", 12, 0, 12), ("srli", 12, 2, 3), ("srli", ALL, 31, 0x1ffffffff), ("srli", ALL, 32, 0xffffffff),
    ("srli", LEAST, 63, 1),
    ("srai", 12, 0, 12), ("srai", 12, 2, 3), ("srai", LEAST, 31, 0xffffffff00000000), ("srai", LEAST, 32, LEAST_32),
    ("srai", LEAST, 63, ALL), ("srai", MOST, 63, 0), ("srai", MOST, 62, 1),
    ("addiw", 5, 7, 12), ("addiw", 5, -7, neg(2)), ("addiw", MOST_32, 1, LEAST_32), ("addiw", 0xffffffff, 1, 0),
    ("addiw", LEAST_32, -1, MOST_32), ("addiw", 0x80000000, 0, LEAST_32), ("addiw", 0x1234567800000005, 0, 5),
    ("addiw", 0x7ffff800, 2047, 0x7fffffff), ("addiw", 0, -2048, neg(2048)),
    ("slliw", 3, 0, 3), ("slliw", 1, 31, LEAST_32), ("slliw", 3, 31, LEAST_32), ("slliw", 0x40000000, 1, LEAST_32),
    ("slliw", 0x80000000, 0, LEAST_32), ("slliw", 0xff00000001, 4, 16),
    ("srliw", 12, 2, 3), ("srliw", ALL, 0, ALL), ("srliw", ALL, 1, MOST_32), ("srliw", LEAST_32, 31, 1),
    ("srliw", 0xff00000010, 4, 1),
    ("sraiw", 12, 2, 3), ("sraiw", 0x80000000, 0, LEAST_32), ("sraiw", 0x80000000, 31, ALL), ("sraiw", MOST_32, 31, 0),
    ("sraiw", 0xff40000000, 30, 1), ("sraiw", LEAST_32, 4, 0xfffffffff8000000),
)


class OfRegisters(CodeCase):
    def test_every_row(self):
        for name, a, b, result in OF_REGISTERS:
            self.check_done([word(name, rd=5, rs1=6, rs2=7)], {6: a, 7: b}, {5: result})

    def test_source_and_target_the_same(self):
        for name, a, b, result in OF_REGISTERS:
            self.check_done([word(name, rd=6, rs1=6, rs2=7)], {6: a, 7: b}, {6: result})
            self.check_done([word(name, rd=7, rs1=6, rs2=7)], {6: a, 7: b}, {7: result})
            if a == b:
                self.check_done([word(name, rd=5, rs1=6, rs2=6)], {6: a}, {5: result})
                self.check_done([word(name, rd=6, rs1=6, rs2=6)], {6: a}, {6: result})

    def test_register_0_as_source(self):
        for name, a, b, result in OF_REGISTERS:
            if a == 0:
                self.check_done([word(name, rd=5, rs1=0, rs2=7)], {7: b}, {5: result})
            if b == 0:
                self.check_done([word(name, rd=5, rs1=6, rs2=0)], {6: a}, {5: result})

    def test_register_0_as_target(self):
        for name, a, b, result in OF_REGISTERS:
            self.check_done([word(name, rd=0, rs1=6, rs2=7)], {6: a, 7: b}, {})

    def test_every_register(self):
        for k in range(1, 32):
            other = k % 31 + 1
            self.check_done([word("sub", rd=k, rs1=k, rs2=other)], {k: 50, other: 8}, {k: 42})
            self.check_done([word("sub", rd=other, rs1=other, rs2=k)], {k: 8, other: 50}, {other: 42})


class OfImmediates(CodeCase):
    def test_every_row(self):
        for name, a, immediate, result in OF_IMMEDIATES:
            self.check_done([word(name, rd=5, rs1=6, imm=immediate)], {6: a}, {5: result})

    def test_source_and_target_the_same(self):
        for name, a, immediate, result in OF_IMMEDIATES:
            self.check_done([word(name, rd=6, rs1=6, imm=immediate)], {6: a}, {6: result})

    def test_register_0(self):
        for name, a, immediate, result in OF_IMMEDIATES:
            self.check_done([word(name, rd=0, rs1=6, imm=immediate)], {6: a}, {})
            if a == 0:
                self.check_done([word(name, rd=5, rs1=0, imm=immediate)], {}, {5: result})

    def test_each_bit_of_an_immediate(self):
        for k in range(11):
            self.check_done([word("addi", rd=5, rs1=6, imm=1 << k)], {6: 100000}, {5: 100000 + 2 ** k})
        for k in range(6):
            self.check_done([word("slli", rd=5, rs1=6, imm=1 << k)], {6: 1}, {5: 2 ** 2 ** k})

    def test_lui(self):
        for immediate, result in ((1, 4096), (0, 0), (0x7ffff, 0x7ffff000), (0x80000, LEAST_32), (0xfffff, neg(4096))):
            self.check_done([word("lui", rd=5, imm=immediate << 12)], {5: 77}, {5: result})
            self.check_done([word("lui", rd=0, imm=immediate << 12)], {}, {})
        for k in range(19):
            self.check_done([word("lui", rd=9, imm=4096 << k)], {}, {9: 4096 << k})

    def test_auipc(self):
        for immediate, more in ((1, 4096), (0, 0), (0x7ffff, 0x7ffff000), (0x80000, -2 ** 31), (0xfffff, -4096)):
            for start in (0, 2, START, 65532):
                self.check_done([word("auipc", rd=5, imm=immediate << 12)], {}, {5: start + more}, start=start)
                self.check_done([word("auipc", rd=0, imm=immediate << 12)], {}, {}, start=start)
        for k in range(19):
            self.check_done([word("auipc", rd=9, imm=4096 << k)], {}, {9: START + (4096 << k)})


class Rows(CodeCase):
    def test_every_instruction_has_rows(self):
        names = """add sub and or xor slt sltu sll srl sra addw subw sllw srlw sraw mul mulh mulhu mulhsu
            div divu rem remu mulw divw divuw remw remuw addi slti sltiu xori ori andi slli srli srai
            addiw slliw srliw sraiw""".split()
        self.assertEqual(sorted(set(row[0] for row in OF_REGISTERS + OF_IMMEDIATES)), sorted(names))


if __name__ == "__main__":
    unittest.main()
