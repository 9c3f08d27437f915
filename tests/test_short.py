"""Point 3: the instructions of C, as it is for 64 bits."""

import unittest

from assembler import SHORT, immediate_bits, word
from program import REGISTERS, START, WRAP, CodeCase, neg, ran, reasons

SMALL = range(8, 16)
FULL = range(1, 32)
ALL = 2 ** 64 - 1
LEAST = 2 ** 63
BYTES = [0x88, 0x97, 0xa6, 0xb5, 0xc4, 0xd3, 0xe2, 0xf1]


def bit_values(name):
    """Each bit of the instruction's immediate by itself."""
    return [1 << k for k in immediate_bits(name)]


def signed_values(name):
    """The same where the highest is the sign."""
    values = bit_values(name)
    return values[:-1] + [-values[-1]]


class Table(unittest.TestCase):
    def test_the_bits_of_each_immediate(self):
        expected = {
            "c.addi4spn": range(2, 10), "c.addi16sp": range(4, 10), "c.lui": range(12, 18),
            "c.lw": range(2, 7), "c.ld": range(3, 8), "c.sw": range(2, 7), "c.sd": range(3, 8),
            "c.lwsp": range(2, 8), "c.ldsp": range(3, 9), "c.swsp": range(2, 8), "c.sdsp": range(3, 9),
            "c.addi": range(6), "c.addiw": range(6), "c.li": range(6), "c.andi": range(6),
            "c.srli": range(6), "c.srai": range(6), "c.slli": range(6),
            "c.j": range(1, 12), "c.beqz": range(1, 9), "c.bnez": range(1, 9),
        }
        for name in SHORT:
            self.assertEqual(immediate_bits(name), list(expected.get(name, ())), name)


class Computing(CodeCase):
    def test_addi4spn(self):
        for immediate in bit_values("c.addi4spn") + [1020, 12]:
            self.check_done([word("c.addi4spn", rd=9, imm=immediate)], {2: 5000}, {9: 5000 + immediate})
        for target in SMALL:
            self.check_done([word("c.addi4spn", rd=target, imm=4)], {2: ALL}, {target: 3})

    def test_addi(self):
        for immediate in signed_values("c.addi") + [31, -1, 0]:
            self.check_done([word("c.addi", rd=9, imm=immediate)], {9: 5000}, {9: 5000 + immediate})
            self.check_done([word("c.addi", rd=31, imm=immediate)], {31: ALL}, {31: (ALL + immediate) % WRAP})
        for target in FULL:
            self.check_done([word("c.addi", rd=target, imm=-3)], {target: 2}, {target: ALL})

    def test_addiw(self):
        for immediate in signed_values("c.addiw") + [31, -1, 0]:
            self.check_done([word("c.addiw", rd=9, imm=immediate)], {9: 0xab00005000}, {9: 0x5000 + immediate})
        rows = (
            (0x7fffffff, 1, neg(2 ** 31)), (0x80000000, -1, 0x7fffffff), (0x80000000, 0, neg(2 ** 31)),
            (0xffffffff, 1, 0), (0, -1, ALL), (0x1200000007, 0, 7),
        )
        for a, immediate, result in rows:
            self.check_done([word("c.addiw", rd=9, imm=immediate)], {9: a}, {9: result})
        for target in FULL:
            self.check_done([word("c.addiw", rd=target, imm=-3)], {target: 2}, {target: ALL})

    def test_li(self):
        for immediate in signed_values("c.li") + [31, -1, 0]:
            self.check_done([word("c.li", rd=9, imm=immediate)], {9: 5000}, {9: immediate % WRAP})
        for target in FULL:
            self.check_done([word("c.li", rd=target, imm=17)], {}, {target: 17})

    def test_addi16sp(self):
        for immediate in signed_values("c.addi16sp") + [496, -16]:
            self.check_done([word("c.addi16sp", imm=immediate)], {2: 5000}, {2: 5000 + immediate})
        self.check_done([word("c.addi16sp", imm=-16)], {2: 0}, {2: neg(16)})
        self.check_done([word("c.addi16sp", imm=16)], {2: neg(16)}, {2: 0})

    def test_lui(self):
        for immediate in signed_values("c.lui") + [0x1f000, -4096]:
            self.check_done([word("c.lui", rd=9, imm=immediate)], {9: 5000}, {9: immediate % WRAP})
        for target in FULL:
            if target != 2:
                self.check_done([word("c.lui", rd=target, imm=4096)], {}, {target: 4096})

    def test_right_shifts(self):
        for target in SMALL:
            self.check_done([word("c.srli", rd=target, imm=4)], {target: neg(16)}, {target: 2 ** 60 - 1})
            self.check_done([word("c.srai", rd=target, imm=4)], {target: neg(32)}, {target: neg(2)})
        for amount in bit_values("c.srli") + [31, 63]:
            for value in (LEAST, ALL, 2 ** 63 - 1, 0x123456789abcdef0):
                minus = value - WRAP if value >= LEAST else value
                self.check_done([word("c.srli", rd=9, imm=amount)], {9: value}, {9: value // 2 ** amount})
                self.check_done([word("c.srai", rd=9, imm=amount)], {9: value}, {9: minus // 2 ** amount % WRAP})

    def test_slli(self):
        for target in FULL:
            self.check_done([word("c.slli", rd=target, imm=4)], {target: 3}, {target: 48})
        for amount in bit_values("c.slli") + [31, 63]:
            for value in (1, LEAST, ALL, 0x123456789abcdef0):
                self.check_done([word("c.slli", rd=9, imm=amount)], {9: value}, {9: value * 2 ** amount % WRAP})

    def test_andi(self):
        for immediate in signed_values("c.andi") + [31, -1, 0]:
            self.check_done([word("c.andi", rd=9, imm=immediate)], {9: ALL}, {9: immediate % WRAP})
        for target in SMALL:
            self.check_done([word("c.andi", rd=target, imm=12)], {target: 10}, {target: 8})
            self.check_done([word("c.andi", rd=target, imm=-8)], {target: LEAST + 15}, {target: LEAST + 8})

    def test_small_registers(self):
        rows = (
            ("c.sub", 7, 5, 2), ("c.sub", 5, 7, neg(2)), ("c.sub", LEAST, 1, LEAST - 1), ("c.xor", 12, 10, 6),
            ("c.xor", ALL, 1, neg(2)),
            ("c.or", 12, 10, 14), ("c.or", LEAST, 1, LEAST + 1), ("c.and", 12, 10, 8), ("c.and", ALL, LEAST, LEAST),
            ("c.subw", 7, 5, 2), ("c.subw", 0x80000000, 1, 0x7fffffff), ("c.subw", 0, 0x80000000, neg(2 ** 31)),
            ("c.subw", 0x900000003, 5, neg(2)), ("c.addw", 7, 5, 12), ("c.addw", 0x7fffffff, 1, neg(2 ** 31)),
            ("c.addw", 0xffffffff, 1, 0), ("c.addw", 0x900000003, 0x800000005, 8),
        )
        for name, a, b, result in rows:
            self.check_done([word(name, rd=9, rs2=14)], {9: a, 14: b}, {9: result})
        for name, result in (("c.sub", 0), ("c.xor", 0), ("c.or", 9), ("c.and", 9), ("c.subw", 0), ("c.addw", 18)):
            for target in SMALL:
                self.check_done([word(name, rd=target, rs2=target)], {target: 9}, {target: result})
                other = 8 + (target - 7) % 8
                self.check_done([word(name, rd=target, rs2=other)], {target: 9, other: 9}, {target: result})

    def test_mv_and_add(self):
        for target in FULL:
            other = target % 31 + 1
            self.check_done([word("c.mv", rd=target, rs2=other)], {target: 5, other: ALL}, {target: ALL})
            self.check_done([word("c.add", rd=target, rs2=other)], {target: 5, other: ALL}, {target: 4})
            self.check_done([word("c.mv", rd=target, rs2=target)], {target: 5}, {})
            self.check_done([word("c.add", rd=target, rs2=target)], {target: LEAST + 1}, {target: 2})

    def test_nop(self):
        self.check_done([0x0001], {}, {})


class Memory(CodeCase):
    """name, how many bytes, the address's register or None where the word names one."""

    LOADS = (("c.lw", 4, None), ("c.ld", 8, None), ("c.lwsp", 4, 2), ("c.ldsp", 8, 2))
    STORES = (("c.sw", 4, None), ("c.sd", 8, None), ("c.swsp", 4, 2), ("c.sdsp", 8, 2))

    def check_load(self, name, n, base, target, immediate, place, row=BYTES):
        value = int.from_bytes(bytes(row[:n]), "little")
        result = value | (neg(2 ** 32) if n == 4 and value >= 2 ** 31 else 0)
        number = word(name, rd=target, rs1=base, imm=immediate)
        self.check_done([number], {base: place - immediate}, {target: result}, rows={place: row[:n]})

    def check_store(self, name, n, base, source, immediate, place):
        number = word(name, rs1=base, rs2=source, imm=immediate)
        registers = {source: int.from_bytes(bytes(BYTES), "little"), base: (place - immediate) % WRAP}
        before = ran([number], registers, steps=0, whole=True)
        outcome = ran([number], registers, whole=True)
        stored = list(before.registers[source].to_bytes(8, "little"))[:n]
        self.assertEqual((outcome.done, outcome.why, outcome.pc), (1, 0, START + 2))
        self.assertEqual(outcome.registers, before.registers)
        self.assertEqual(outcome.memory, before.memory[:place] + stored + before.memory[place + n:])

    def test_loads(self):
        for name, n, base in self.LOADS:
            for immediate in bit_values(name) + [0, sum(bit_values(name))]:
                for place in (0x2000, 0x2001, 65536 - n):
                    self.check_load(name, n, base or 9, 12, immediate, place)
            self.check_load(name, n, base or 9, 12, 8, 0x2000, [255] * 7 + [127])
            self.check_load(name, n, base or 9, 12, 8, 0x2000, [0, 0, 0, 127] * 2)

    def test_loads_to_every_register(self):
        for name, n, base in self.LOADS:
            for target in FULL if base else SMALL:
                self.check_load(name, n, base or 9, target, 8, 0x2000)
            for other in () if base else SMALL:
                self.check_load(name, n, other, 12, 8, 0x2000)

    def test_stores(self):
        for name, n, base in self.STORES:
            for immediate in bit_values(name) + [0, sum(bit_values(name))]:
                for place in (0x2000, 0x2001, 65536 - n):
                    self.check_store(name, n, base or 9, 12, immediate, place)

    def test_stores_of_every_register(self):
        for name, n, base in self.STORES:
            for source in [0, *FULL] if base else SMALL:
                self.check_store(name, n, base or 9, source, 8, 0x2000)
            for other in () if base else SMALL:
                self.check_store(name, n, other, 12, 8, 0x2000)

    def test_addresses_wrap(self):
        for name, n, base in self.LOADS:
            self.check_load(name, n, base or 9, 12, 8, 0)
        for name, n, base in self.STORES:
            self.check_store(name, n, base or 9, 12, 8, 0)

    def test_stop_4(self):
        for name, n, base in self.LOADS + self.STORES:
            for immediate in (0, 8, 64):
                for place in (65536 - n + 1, 65536, neg(1), neg(n), LEAST):
                    number = word(name, rd=12, rs1=9, rs2=12, imm=immediate)
                    self.check_stop(4, [number], {base or 9: place - immediate}, rows={0: [5] * 8, 65528: [6] * 8})


class Jumping(CodeCase):
    def test_j(self):
        for offset in signed_values("c.j") + [2046, -2, 0]:
            self.check_done([word("c.j", imm=offset)], {}, {}, START + offset)

    def test_branches(self):
        for offset in signed_values("c.beqz") + [254, -2, 0]:
            for which in SMALL:
                for value in (0, 1, ALL, LEAST, 2 ** 32):
                    pcs = (START + offset, START + 2) if value == 0 else (START + 2, START + offset)
                    self.check_done([word("c.beqz", rs1=which, imm=offset)], {which: value}, {}, pcs[0])
                    self.check_done([word("c.bnez", rs1=which, imm=offset)], {which: value}, {}, pcs[1])

    def test_jr(self):
        for which in FULL:
            for place, pc in ((0x2000, 0x2000), (0x2001, 0x2000), (ALL, ALL - 1), (65536, 65536)):
                self.check_done([word("c.jr", rs1=which)], {which: place}, {}, pc)

    def test_jalr(self):
        for which in FULL:
            for place, pc in ((0x2000, 0x2000), (0x2001, 0x2000), (ALL, ALL - 1), (65536, 65536)):
                self.check_done([word("c.jalr", rs1=which)], {which: place}, {1: START + 2}, pc)

    def test_out_of_memory(self):
        self.check_done([word("c.j", imm=-2)], {}, {}, ALL - 1, start=0)
        self.check_done([word("c.beqz", rs1=9, imm=-256)], {9: 0}, {}, neg(240), start=16)
        self.check_done([word("c.bnez", rs1=9, imm=254)], {}, {}, 65534 + 254, start=65534)
        self.check_stop(4, [word("c.j", imm=-2)], start=0, before=1)
        self.check_stop(4, [word("c.jr", rs1=9)], {9: neg(2)}, before=1)

    def test_ebreak(self):
        self.check_stop(2, [word("c.ebreak")])
        self.check_stop(2, [0x0001, word("c.ebreak")], before=1)


class Hints(CodeCase):
    def check_nothing(self, words):
        for number, reason in zip(words, reasons(words)):
            self.assertEqual(reason, (1, 0), hex(number))
        for number in words:
            self.check_done([number], {}, {})

    def test_to_register_0(self):
        immediates = [1 << k for k in range(6)] + [63, 0]
        self.check_nothing([word("c.addi", rd=0, imm=immediate) for immediate in immediates])
        self.check_nothing([word("c.li", rd=0, imm=immediate) for immediate in immediates])
        self.check_nothing([word("c.slli", rd=0, imm=immediate) for immediate in immediates])
        self.check_nothing([word("c.lui", rd=0, imm=immediate << 12) for immediate in immediates if immediate])
        self.check_nothing([word("c.mv", rd=0, rs2=source) for source in FULL])
        self.check_nothing([word("c.add", rd=0, rs2=source) for source in FULL])

    def test_by_0(self):
        self.check_nothing([word("c.addi", rd=target, imm=0) for target in FULL])
        self.check_nothing([word("c.slli", rd=target, imm=0) for target in FULL])
        self.check_nothing([word("c.srli", rd=target, imm=0) for target in SMALL])
        self.check_nothing([word("c.srai", rd=target, imm=0) for target in SMALL])

    def test_those_of_32_bits(self):
        names = """addi slti sltiu xori ori andi slli srli srai addiw slliw srliw sraiw lui auipc mul div
            add sub sll slt sltu xor srl sra or and addw subw sllw srlw sraw""".split()
        self.check_nothing([word(name, rd=0, rs1=6, rs2=7, imm=4096 + 7) for name in names])


class Reserved(CodeCase):
    def check_reserved(self, words):
        for number, reason in zip(words, reasons(words, {2: 0x2000, **{k: 0x3000 for k in SMALL}})):
            self.assertEqual(reason, (0, 3), hex(number))

    def test_an_immediate_of_0(self):
        self.check_reserved([word("c.addi4spn", rd=target, imm=0) for target in SMALL])
        self.check_reserved([word("c.addi16sp", imm=0)])
        self.check_reserved([word("c.lui", rd=target, imm=0) for target in [0, *FULL]])

    def test_register_0(self):
        self.check_reserved([word("c.addiw", rd=0, imm=immediate) for immediate in range(64)])
        self.check_reserved([word("c.lwsp", rd=0, imm=immediate) for immediate in range(0, 256, 4)])
        self.check_reserved([word("c.ldsp", rd=0, imm=immediate) for immediate in range(0, 512, 8)])
        self.check_reserved([word("c.jr", rs1=0)])

    def test_no_instruction_at_all(self):
        self.check_reserved([0x8000 | fields << 2 for fields in range(2 ** 11)])
        self.check_reserved([0x9c41 | first << 7 | second << 2 | low << 5
                             for first in range(8) for second in range(8) for low in (0, 1)])

    def test_those_for_floating_registers(self):
        for base in (0x2000, 0xa000, 0x2002, 0xa002):
            self.check_reserved([base | fields << 2 for fields in range(0, 2 ** 11, 3)])

    def test_nothing_is_done(self):
        words = (word("c.addiw", rd=0, imm=1), word("c.lui", rd=5, imm=0), word("c.lwsp", rd=0, imm=8))
        for number in (*words, 0x9c41, 0xa002, 0):
            self.check_stop(3, [number], {2: 0x2000})
            self.check_stop(3, [word("c.li", rd=5, imm=1), number], {2: 0x2000}, before=1)

    def test_registers_of_the_tests(self):
        self.assertEqual(sorted(REGISTERS), list(FULL))
        self.assertEqual(len(set(REGISTERS.values())), 31)


if __name__ == "__main__":
    unittest.main()
