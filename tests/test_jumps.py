"""Point 3: the jumps and branches of RV64I."""

import unittest

from assembler import word
from lines import ask, get, run, why
from program import START, WRAP, CodeCase, neg, start_calls

LEAST = 2 ** 63
MOST = 2 ** 63 - 1
ALL = 2 ** 64 - 1
PAIRS = (
    (1, 1), (1, 2), (2, 1), (0, ALL), (ALL, 0), (ALL, ALL), (LEAST, MOST), (MOST, LEAST), (LEAST, LEAST), (LEAST, 0),
    (0, LEAST), (neg(2), neg(1)), (0x80000000, 0), (0, 0x80000000), (2 ** 32, 0), (0, 2 ** 32), (0, 0),
)
# name, for each of the pairs whether the branch is taken.
TAKEN = (
    ("beq", "10000100100000001"),
    ("bne", "01111011011111110"),
    ("blt", "01001010010101010"),
    ("bge", "10110101101010101"),
    ("bltu", "01010001001101010"),
    ("bgeu", "10101110110010101"),
)
OFFSETS = (-4096, -2048, -4, -2, 2, 4, 6, 8, 16, 32, 64, 128, 256, 512, 1024, 2048, 4094)


class Branches(CodeCase):
    def test_taken_and_not(self):
        for name, taken in TAKEN:
            self.assertEqual(len(taken), len(PAIRS))
            for (a, b), bit in zip(PAIRS, taken):
                for offset in (-64, 64):
                    pc = START + (offset if bit == "1" else 4)
                    self.check_done([word(name, rs1=6, rs2=7, imm=offset)], {6: a, 7: b}, {}, pc)

    def test_forward_and_backward(self):
        taken = (("beq", 3, 3), ("bne", 3, 4), ("blt", 3, 4), ("bge", 4, 3), ("bltu", 3, 4), ("bgeu", 4, 3))
        for offset in OFFSETS:
            for name, a, b in taken:
                self.check_done([word(name, rs1=6, rs2=7, imm=offset)], {6: a, 7: b}, {}, START + offset)

    def test_to_itself(self):
        self.check_done([word("beq", rs1=0, rs2=0, imm=0)], {}, {}, START, steps=1000)

    def test_the_same_register_twice(self):
        for name, taken in (("beq", 1), ("bne", 0), ("blt", 0), ("bge", 1), ("bltu", 0), ("bgeu", 1)):
            self.check_done([word(name, rs1=6, rs2=6, imm=40)], {}, {}, START + (40 if taken else 4))

    def test_register_0(self):
        self.check_done([word("blt", rs1=0, rs2=7, imm=40)], {7: 1}, {}, START + 40)
        self.check_done([word("blt", rs1=7, rs2=0, imm=40)], {7: 1}, {}, START + 4)

    def test_a_loop(self):
        words = [word("add", rd=5, rs1=5, rs2=6), word("addi", rd=6, rs1=6, imm=-1), word("bne", rs1=6, rs2=0, imm=-8)]
        self.check_done(words, {5: 0, 6: 100}, {5: 5050, 6: 0}, steps=300)


class Jumps(CodeCase):
    def test_jal(self):
        for offset in OFFSETS + (8192, 65536, 2 ** 19, 2 ** 20 - 2, 0, 32768, 2 ** 17, 2 ** 18):
            self.check_done([word("jal", rd=5, imm=offset)], {}, {5: START + 4}, (START + offset) % WRAP)
            self.check_done([word("jal", rd=0, imm=offset)], {}, {}, (START + offset) % WRAP)

    def test_jalr(self):
        for place in (0, 2, 0x2000, 65534, 65536, 2 ** 32, LEAST, ALL - 1):
            for immediate in (0, 2, -2, 2046, -2048):
                words = [word("jalr", rd=5, rs1=6, imm=immediate)]
                self.check_done(words, {6: place}, {5: START + 4}, (place + immediate) % WRAP)

    def test_jalr_drops_the_lowest_bit_of_the_sum(self):
        rows = (
            (0x2001, 0, 0x2000), (0x2000, 1, 0x2000), (0x2001, 1, 0x2002), (0x2001, -1, 0x2000), (0x2000, -1, 0x1ffe),
            (0x2003, 2047, 0x2802), (ALL, 0, ALL - 1), (ALL, 2, 0),
        )
        for place, immediate, pc in rows:
            self.check_done([word("jalr", rd=5, rs1=6, imm=immediate)], {6: place}, {5: START + 4}, pc)

    def test_jalr_of_one_register(self):
        for which in (1, 5, 31):
            self.check_done([word("jalr", rd=which, rs1=which, imm=6)], {which: 0x2000}, {which: START + 4}, 0x2006)

    def test_jalr_and_register_0(self):
        self.check_done([word("jalr", rd=0, rs1=6)], {6: 0x2000}, {}, 0x2000)
        self.check_done([word("jalr", rd=5, rs1=0, imm=100)], {}, {5: START + 4}, 100)
        self.check_done([word("jalr", rd=5, rs1=0, imm=-2)], {}, {5: START + 4}, ALL - 1)
        self.check_done([word("jalr", rd=0, rs1=0, imm=0)], {}, {}, 0)

    def test_there_and_back(self):
        words = [word("jal", rd=1, imm=8), word("addi", rd=5, rs1=0, imm=3), word("jalr", rd=0, rs1=1)]
        self.check_done(words, {}, {1: START + 4, 5: 3}, START + 8, steps=3)


class OutsideOfMemory(CodeCase):
    def check_goes_out(self, words, registers, pc, changed, start=START, steps=1):
        self.check_done(words, registers, changed, pc, start, steps=steps)
        calls = start_calls(words, registers, start)
        rows = ask(*calls, run(steps + 5), why(), get(32), run(1), why(), get(32))[len(calls):]
        self.assertEqual(rows, [[steps], [4], [0, pc], [0], [4], [0, pc]])

    def test_above(self):
        self.check_goes_out([word("jal", rd=5, imm=65536)], {}, START + 65536, {5: START + 4})
        self.check_goes_out([word("jalr", rd=5, rs1=6)], {6: 65536}, 65536, {5: START + 4})
        self.check_goes_out([word("jalr", rd=5, rs1=6)], {6: LEAST}, LEAST, {5: START + 4})
        self.check_goes_out([word("beq", imm=4094)], {}, 64000 + 4094, {}, start=64000)

    def test_below_0(self):
        self.check_goes_out([word("jal", rd=5, imm=-2)], {}, ALL - 1, {5: 4}, start=0)
        self.check_goes_out([word("jal", rd=5, imm=-2 ** 20)], {}, neg(2 ** 20 - START), {5: START + 4})
        self.check_goes_out([word("bne", rs1=6, rs2=7, imm=-4096)], {6: 1, 7: 2}, neg(4096 - 16), {}, start=16)
        self.check_goes_out([word("jalr", rd=5, rs1=0, imm=-2048)], {}, neg(2048), {5: START + 4})

    def test_a_sum_that_wraps_comes_back(self):
        self.check_done([word("jalr", rd=5, rs1=6, imm=200)], {6: neg(100)}, {5: START + 4}, 100)

    def test_off_the_end(self):
        self.check_goes_out([word("addi", rd=5, rs1=0, imm=1)], {}, 65536, {5: 1}, start=65532)
        self.check_goes_out([word("c.li", rd=5, imm=1)], {}, 65536, {5: 1}, start=65534)
        self.check_goes_out([word("jal", rd=5, imm=4)], {}, 65536, {5: 65536}, start=65532)


if __name__ == "__main__":
    unittest.main()
