"""Point 3 and stop 4: loads and stores of RV64I."""

import unittest

from assembler import word
from lines import ask, get, put, run, set_, take, why
from program import START, WRAP, CodeCase, neg, ran, start_calls

SIZES = {"lb": 1, "lh": 2, "lw": 4, "ld": 8, "lbu": 1, "lhu": 2, "lwu": 4, "sb": 1, "sh": 2, "sw": 4, "sd": 8}
LOADS = ("lb", "lh", "lw", "ld", "lbu", "lhu", "lwu")
STORES = ("sb", "sh", "sw", "sd")

# name, the bytes that are loaded, what the target holds then.
LOADED = (
    ("lb", [0x12], 0x12), ("lb", [0x7f], 0x7f), ("lb", [0x80], neg(128)), ("lb", [0xff], neg(1)), ("lb", [0], 0),
    ("lbu", [0x12], 0x12), ("lbu", [0x7f], 0x7f), ("lbu", [0x80], 0x80), ("lbu", [0xff], 0xff), ("lbu", [0], 0),
    ("lh", [0x34, 0x12], 0x1234), ("lh", [0xff, 0x7f], 0x7fff), ("lh", [0, 0x80], neg(0x8000)),
    ("lh", [0xff, 0xff], neg(1)),
    ("lh", [0x80, 0], 0x80),
    ("lhu", [0x34, 0x12], 0x1234), ("lhu", [0xff, 0x7f], 0x7fff), ("lhu", [0, 0x80], 0x8000),
    ("lhu", [0xff, 0xff], 0xffff),
    ("lw", [0x78, 0x56, 0x34, 0x12], 0x12345678), ("lw", [0xff, 0xff, 0xff, 0x7f], 0x7fffffff),
    ("lw", [0, 0, 0, 0x80], neg(2 ** 31)), ("lw", [255, 255, 255, 255], neg(1)), ("lw", [0, 0x80, 0, 0], 0x8000),
    ("lwu", [0x78, 0x56, 0x34, 0x12], 0x12345678), ("lwu", [0xff, 0xff, 0xff, 0x7f], 0x7fffffff),
    ("lwu", [0, 0, 0, 0x80], 2 ** 31), ("lwu", [255, 255, 255, 255], 0xffffffff),
    ("ld", [0xf0, 0xde, 0xbc, 0x9a, 0x78, 0x56, 0x34, 0x12], 0x123456789abcdef0), ("ld", [255] * 8, WRAP - 1),
    ("ld", [0] * 7 + [0x80], 2 ** 63), ("ld", [255] * 7 + [0x7f], 2 ** 63 - 1),
    ("ld", [0, 0, 0, 0x80, 0, 0, 0, 0], 2 ** 31),
)
VALUE = 0xf1e2d3c4b5a69788
VALUE_BYTES = [0x88, 0x97, 0xa6, 0xb5, 0xc4, 0xd3, 0xe2, 0xf1]


class Loads(CodeCase):
    def test_every_row_at_multiples_and_not(self):
        for name, row, result in LOADED:
            for place in (0x2000, 0x2001, 0x2002, 0x2003, 0x2005, 0x2007):
                rows = {place - 1: [0x55] + row + [0xaa]}
                self.check_done([word(name, rd=5, rs1=6)], {6: place}, {5: result}, rows=rows)

    def test_source_and_target_the_same(self):
        for name, row, result in LOADED:
            self.check_done([word(name, rd=6, rs1=6)], {6: 0x2000}, {6: result}, rows={0x2000: row})

    def test_register_0(self):
        for name, row, result in LOADED:
            self.check_done([word(name, rd=0, rs1=6)], {6: 0x2000}, {}, rows={0x2000: row})
            self.check_done([word(name, rd=5, rs1=0, imm=100)], {}, {5: result}, rows={100: row})

    def test_immediates(self):
        for name, row, result in LOADED:
            for immediate in (-2048, -1, 1, 2047):
                words = [word(name, rd=5, rs1=6, imm=immediate)]
                self.check_done(words, {6: 0x3000 - immediate}, {5: result}, rows={0x3000: row})

    def test_a_load_leaves_memory_alone(self):
        for name in LOADS:
            outcome = ran([word(name, rd=5, rs1=6)], {6: 0x2000}, rows={0x2000: VALUE_BYTES}, whole=True)
            self.assertEqual(outcome.memory[0x2000:0x2008], VALUE_BYTES)
            self.assertEqual(sum(outcome.memory), sum(VALUE_BYTES) + sum(outcome.memory[START:START + 4]))

    def test_addresses_wrap(self):
        for name, row, result in LOADED:
            self.check_done([word(name, rd=5, rs1=6, imm=1)], {6: neg(1)}, {5: result}, rows={0: row})
            self.check_done([word(name, rd=5, rs1=6, imm=2047)], {6: neg(1000)}, {5: result}, rows={1047: row})


class Stores(CodeCase):
    def check_store(self, name, place, immediate=0, first=6, second=7, value=VALUE):
        n = SIZES[name]
        around = {max(place - 3, 0): [1] * (place - max(place - 3, 0)), place: [2] * n}
        words = [word(name, rs1=first, rs2=second, imm=immediate)]
        registers = {second: value, first: place - immediate}
        before = ran(words, registers, rows=around, steps=0, whole=True)
        outcome = ran(words, registers, rows=around, whole=True)
        stored = list((registers[second] % WRAP if second else 0).to_bytes(8, "little")[:n])
        self.assertEqual((outcome.done, outcome.why, outcome.pc), (1, 0, START + 4))
        self.assertEqual(outcome.registers, before.registers)
        self.assertEqual(outcome.memory, before.memory[:place] + stored + before.memory[place + n:])

    def test_the_lowest_byte_first(self):
        for name in STORES:
            n = SIZES[name]
            rows = {0x2000: [9] * 12}
            outcome = ran([word(name, rs1=6, rs2=7)], {6: 0x2002, 7: VALUE}, rows=rows, whole=True)
            self.assertEqual(outcome.memory[0x2000:0x200c], [9, 9] + VALUE_BYTES[:n] + [9] * (10 - n))

    def test_at_multiples_and_not(self):
        for name in STORES:
            for place in (0, 1, 0x2000, 0x2001, 0x2002, 0x2003, 0x2005, 0x2007, 65536 - SIZES[name]):
                self.check_store(name, place)

    def test_immediates(self):
        for name in STORES:
            for immediate in (-2048, -1, 1, 31, 32, 2047):
                self.check_store(name, 0x3000, immediate)
            for k in range(12):
                self.check_store(name, 0x3000, 1 << k if k < 11 else -2048)

    def test_addresses_wrap(self):
        for name in STORES:
            self.check_store(name, 0, 1)
            self.check_store(name, 1047, 2047)

    def test_register_0(self):
        for name in STORES:
            self.check_store(name, 0x2000, second=0, value=0)
            self.check_store(name, 100, immediate=100, first=0)

    def test_source_and_address_the_same(self):
        for name in STORES:
            self.check_store(name, 0x2345, first=6, second=6)

    def test_a_store_over_the_next_instruction(self):
        other = word("addi", rd=5, rs1=0, imm=99)
        words = [word("sw", rs1=6, rs2=7), word("addi", rd=5, rs1=0, imm=1)]
        outcome = ran(words, {6: START + 4, 7: other}, steps=2)
        self.assertEqual((outcome.done, outcome.registers[5]), (2, 99))

    def test_an_instruction_that_was_done_before_is_read_anew(self):
        words = [word("addi", rd=5, rs1=5, imm=1), word("sh", rs1=6, rs2=7), word("jal", rd=0, imm=-8)]
        calls = start_calls(words, {5: 0, 6: START + 2, 7: word("addi", rd=5, rs1=5, imm=100) >> 16})
        rows = ask(*calls, run(4), get(5), put(START, [0, 0]), set_(32, START), run(3), why(), take(START, 4))
        self.assertEqual(rows[len(calls):], [[4], [0, 101], [0], [0], [0], [3], [0, 0, 0] + [0x42, 0x06]])


class OutsideOfMemory(CodeCase):
    def test_the_last_address_where_all_bytes_are_there(self):
        for name in LOADS:
            n = SIZES[name]
            row = [0x11, 0x22, 0x33, 0x44, 0x55, 0x66, 0x77, 0x18][8 - n:]
            result = int.from_bytes(bytes(row), "little")
            for immediate in (0, 5, -5):
                registers = {6: 65536 - n - immediate}
                self.check_done([word(name, rd=5, rs1=6, imm=immediate)], registers, {5: result}, rows={65536 - n: row})

    def test_stop_4(self):
        for name in SIZES:
            n = SIZES[name]
            places = [65536 - n + 1, 65535 + (n == 1), 65536, 65537, 131072, 2 ** 31, 2 ** 32, 2 ** 63, 2 ** 63 - 1]
            places += [neg(1), neg(n), neg(2 ** 31), neg(65536), 2 ** 32 + 0x2000, 2 ** 63 + 0x2000]
            for place in places:
                self.check_stop(4, [word(name, rd=5, rs1=6, rs2=7)], {6: place}, rows={0: [7] * 8, 65528: [8] * 8})

    def test_below_0_by_the_immediate(self):
        for name in SIZES:
            sums = ((0, -1), (0, -SIZES[name]), (2047, -2048), (65535, 1), (65535, 2047), (2 ** 64 - 2, 1))
            for base, immediate in sums:
                self.check_stop(4, [word(name, rd=5, rs1=6, rs2=7, imm=immediate)], {6: base}, rows={0: [7] * 8})

    def test_a_load_to_register_0(self):
        for name in LOADS:
            for place in (65536 - SIZES[name] + 1, 65536, neg(1)):
                self.check_stop(4, [word(name, rd=0, rs1=6)], {6: place})

    def test_behind_others_that_were_done(self):
        done = [word("addi", rd=9, rs1=9, imm=1), word("sd", rs1=10, rs2=9), word("c.addi", rd=9, imm=1)]
        for name in SIZES:
            last = word(name, rd=5, rs1=6, rs2=7)
            self.check_stop(4, done + [last], {6: 65536, 10: 0x2000}, before=3)

    def test_it_goes_on_when_the_cause_is_gone(self):
        calls = start_calls([word("lb", rd=5, rs1=6)], {6: 65536})
        more = (run(3), why(), set_(6, 65535), put(65535, [9]), run(1), why(), get(5), get(32))
        rows = ask(*calls, *more)[len(calls):]
        self.assertEqual(rows, [[0], [4], [0], [0], [1], [0], [0, 9], [0, START + 4]])


if __name__ == "__main__":
    unittest.main()
