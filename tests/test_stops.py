"""The machine: what stops it, 1 to 4, and that the instruction that stops it does nothing."""

import unittest

from assembler import LONG, word
from lines import ask, get, put, run, set_, why
from program import REGISTERS, START, CodeCase, neg, reasons

ECALL = 0x00000073
EBREAK = 0x00100073
SHORT_EBREAK = 0x9002
BEFORE = (
    word("addi", rd=9, rs1=9, imm=1), word("c.addi", rd=10, imm=1), word("sd", rs1=0, rs2=9, imm=256),
    word("c.mv", rd=11, rs2=9),
)


class CalledFor(CodeCase):
    def test_ecall(self):
        self.check_stop(1, [ECALL])
        self.check_stop(1, [*BEFORE, ECALL], before=4)

    def test_ebreak(self):
        for stop in (EBREAK, SHORT_EBREAK):
            self.check_stop(2, [stop])
            self.check_stop(2, [*BEFORE, stop], before=4)

    def test_at_the_ends_of_memory(self):
        for start in (0, 2, 65532):
            self.check_stop(1, [ECALL], start=start)
            self.check_stop(2, [EBREAK], start=start)
        self.check_stop(2, [SHORT_EBREAK], start=65534)


class NoInstruction(CodeCase):
    def check_all(self, words, answer, registers=None):
        for number, reason in zip(words, reasons(words, registers)):
            self.assertEqual(reason, answer, hex(number))

    def test_nothing_is_done(self):
        for stop in (0, 0xffffffff, 0x0000100f, 0x00001073, 0x2000, 0x8000, 0x8002, 0x6001, 0x2001, 0x0200101b):
            self.check_stop(3, [stop])
            self.check_stop(3, [*BEFORE, stop], before=4)

    def test_words_nearly_ecall_or_ebreak(self):
        near = [base ^ 1 << k for base in (ECALL, EBREAK) for k in range(7, 32)]
        near = [number for number in near if number not in (ECALL, EBREAK)]
        self.assertEqual(len(near), 48)
        self.check_all(near + [0x00200073, 0x10200073, 0x30200073, 0x10500073, 0x12000073, 0x7b200073], (0, 3))

    def test_csrs(self):
        words = [0x73 | three << 12 | which << 20 | 5 << 15 | 6 << 7
                 for three in (1, 2, 3, 5, 6, 7) for which in (0, 1, 0x300, 0xb00, 0xc00, 0xc01, 0xfff)]
        self.check_all(words + [0xc0002573, 0xc01025f3, 0x73 | 4 << 12], (0, 3))

    def test_fence_i_and_its_neighbours(self):
        self.check_all([0x0f | three << 12 for three in range(1, 8)], (0, 3))
        self.check_all([0x0f | three << 12 | 0x0ff << 20 | 3 << 7 for three in range(1, 8)], (0, 3))

    def test_fence_whatever_its_fields(self):
        words = [word("fence", imm=fields, rs1=first, rd=target)
                 for fields in [0, 0x0ff, 0x833, 0x010, 0xfff, 0x0f0, 0x00f] + [1 << k for k in range(12)]
                 for first in (0, 1, 31) for target in (0, 1, 31)]
        self.check_all(words, (1, 0))
        for number in words:
            self.check_done([number], {}, {})

    def test_a_fence_goes_behind_another_instruction(self):
        words = [word("addi", rd=9, rs1=0, imm=1), 0x0ff0000f, word("addi", rd=9, rs1=9, imm=1)]
        self.check_done(words, {}, {9: 2}, steps=3)

    def test_jalr(self):
        self.check_all([0x67 | three << 12 for three in range(1, 8)], (0, 3))

    def test_branches(self):
        self.check_all([0x63 | three << 12 | fields for three in (2, 3) for fields in (0, 0xfe000f80)], (0, 3))

    def test_loads_and_stores(self):
        self.check_all([0x03 | 7 << 12] + [0x23 | three << 12 for three in (4, 5, 6, 7)], (0, 3))

    def test_shifts(self):
        words = []
        for high in range(64):
            words += [] if high == 0 else [0x13 | 1 << 12 | high << 26]
            words += [] if high in (0, 16) else [0x13 | 5 << 12 | high << 26]
        self.check_all(words, (0, 3))

    def test_32_bit_shifts(self):
        words = []
        for high in range(128):
            words += [] if high == 0 else [0x1b | 1 << 12 | high << 25]
            words += [] if high in (0, 32) else [0x1b | 5 << 12 | high << 25]
        self.check_all(words, (0, 3))
        shift_of_32_or_more = [0x1b | three << 12 | high << 25 | 1 << 25 | shift << 20
                               for three, high in ((1, 0), (5, 0), (5, 32)) for shift in (0, 1, 31)]
        self.check_all(shift_of_32_or_more, (0, 3))
        self.check_all([word(name, rd=5, rs1=6, imm=31) for name in ("slliw", "srliw", "sraiw")], (1, 0))
        self.check_all([0x1b | three << 12 for three in (2, 3, 4, 6, 7)], (0, 3))

    def test_those_of_two_registers(self):
        for opcode in (0x33, 0x3b):
            rows = [row.split() for row in LONG.values() if row.endswith(f" {opcode:07b}")]
            known = [int(row[0] + row[3], 2) for row in rows]
            words = [opcode | high << 25 | three << 12 | 7 << 20 | 6 << 15 | 5 << 7
                     for high in range(128) for three in range(8) if high << 3 | three not in known]
            self.assertEqual(len(words), 1024 - (18 if opcode == 0x33 else 10))
            self.check_all(words, (0, 3))

    def test_other_opcodes(self):
        known = (0x03, 0x0f, 0x13, 0x17, 0x1b, 0x23, 0x33, 0x37, 0x3b, 0x63, 0x67, 0x6f, 0x73)
        words = [opcode | fields for opcode in range(3, 128, 4) if opcode not in known
                 for fields in (0, 0x00007000, 0x02c58500, 0xffffff80, 0x00052500, 0x00053500)]
        self.check_all(words, (0, 3))

    def test_those_for_floating_registers_and_others(self):
        # flw, fld, fsw, fsd, fmadd.s, fmsub.s, fnmsub.s, fnmadd.s, fadd.s, fadd.d
        words = [0x00052507, 0x00053507, 0x00a52027, 0x00a53027, 0x68c58543, 0x68c58547, 0x68c5854b, 0x68c5854f,
                 0x00c5f553, 0x02c5f553]
        # lr.w, amoadd.d, andn, sh1add, vadd.vv
        words += [0x1005252f, 0x00c5b52f, 0x40c5f533, 0x20c5a533, 0x02c58557]
        self.check_all(words, (0, 3))

    def test_those_longer_than_32_bits(self):
        words = [low | high << 7 for low in (0x1f, 0x3f, 0x5f, 0x7f) for high in (0, 1, 0xff, 0x1579a00, 0x1ffffff)]
        self.check_all(words, (0, 3))

    def test_16_zero_bits(self):
        self.check_all([0], (0, 3))
        for start in (0, 2, START, 65534):
            rows = ask(set_(32, start), run(1), why(), get(32))
            self.assertEqual(rows[1:], [[0], [3], [0, start]])


class NotInMemory(CodeCase):
    """Stop 4 for the instruction's own bytes; that for loads and stores is with these."""

    def check_pc(self, pc, reason, done, rows=()):
        calls = [put(place, row) for place, row in rows] + [set_(which, value) for which, value in REGISTERS.items()]
        answered = ask(*calls, set_(32, pc), run(1), why(), get(32))[len(calls):]
        self.assertEqual(answered[:3], [[0], [done], [reason]], pc)
        if not done:
            self.assertEqual(answered[3], [0, pc])

    def test_a_short_one_at_the_very_end(self):
        self.check_pc(65534, 0, 1, [(65534, [0x05, 0x45])])
        self.check_pc(65534, 2, 0, [(65534, [0x02, 0x90])])
        self.check_pc(65534, 3, 0, [(65534, [0, 0])])

    def test_a_long_one_at_the_very_end(self):
        for low in (0x03, 0x13, 0x73, 0x1f, 0x7f, 0xff):
            self.check_pc(65534, 4, 0, [(65534, [low, 0])])
        self.check_pc(65532, 0, 1, [(65532, [0x13, 0, 0, 0])])

    def test_nothing_is_done(self):
        self.check_stop(4, [word("c.addi", rd=9, imm=1), word("c.addi", rd=9, imm=2)], start=65532, before=2)

    def test_outside(self):
        above = (65536, 65538, 65540, 131072, 2 ** 31, 2 ** 32, 2 ** 32 + 16, 2 ** 63)
        for pc in (*above, neg(2), neg(4), neg(6), neg(65536)):
            self.check_pc(pc, 4, 0, [(0, [0x13, 0, 0, 0, 0x13, 0, 0, 0]), (16, [0x13, 0, 0, 0])])

    def test_outside_nothing_changes(self):
        for pc in (65536, neg(2)):
            calls = [set_(which, value) for which, value in REGISTERS.items()] + [put(0, [0x13, 0, 0, 0]), set_(32, pc)]
            rows = ask(*calls, run(5), *[get(which) for which in range(33)])[len(calls):]
            self.assertEqual(rows, [[0], [0, 0]] + [[0, value] for value in REGISTERS.values()] + [[0, pc]])


if __name__ == "__main__":
    unittest.main()
