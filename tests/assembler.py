"""Writes instructions as words, by rows that stand as in the public documents: highest bit first."""

import re

LONG = {
    "lui": "imm[31:12] rd 0110111",
    "auipc": "imm[31:12] rd 0010111",
    "jal": "imm[20|10:1|11|19:12] rd 1101111",
    "jalr": "imm[11:0] rs1 000 rd 1100111",
    "beq": "imm[12|10:5] rs2 rs1 000 imm[4:1|11] 1100011",
    "bne": "imm[12|10:5] rs2 rs1 001 imm[4:1|11] 1100011",
    "blt": "imm[12|10:5] rs2 rs1 100 imm[4:1|11] 1100011",
    "bge": "imm[12|10:5] rs2 rs1 101 imm[4:1|11] 1100011",
    "bltu": "imm[12|10:5] rs2 rs1 110 imm[4:1|11] 1100011",
    "bgeu": "imm[12|10:5] rs2 rs1 111 imm[4:1|11] 1100011",
    "lb": "imm[11:0] rs1 000 rd 0000011",
    "lh": "imm[11:0] rs1 001 rd 0000011",
    "lw": "imm[11:0] rs1 010 rd 0000011",
    "ld": "imm[11:0] rs1 011 rd 0000011",
    "lbu": "imm[11:0] rs1 100 rd 0000011",
    "lhu": "imm[11:0] rs1 101 rd 0000011",
    "lwu": "imm[11:0] rs1 110 rd 0000011",
    "sb": "imm[11:5] rs2 rs1 000 imm[4:0] 0100011",
    "sh": "imm[11:5] rs2 rs1 001 imm[4:0] 0100011",
    "sw": "imm[11:5] rs2 rs1 010 imm[4:0] 0100011",
    "sd": "imm[11:5] rs2 rs1 011 imm[4:0] 0100011",
    "addi": "imm[11:0] rs1 000 rd 0010011",
    "slti": "imm[11:0] rs1 010 rd 0010011",
    "sltiu": "imm[11:0] rs1 011 rd 0010011",
    "xori": "imm[11:0] rs1 100 rd 0010011",
    "ori": "imm[11:0] rs1 110 rd 0010011",
    "andi": "imm[11:0] rs1 111 rd 0010011",
    "slli": "000000 imm[5:0] rs1 001 rd 0010011",
    "srli": "000000 imm[5:0] rs1 101 rd 0010011",
    "srai": "010000 imm[5:0] rs1 101 rd 0010011",
    "add": "0000000 rs2 rs1 000 rd 0110011",
    "sub": "0100000 rs2 rs1 000 rd 0110011",
    "sll": "0000000 rs2 rs1 001 rd 0110011",
    "slt": "0000000 rs2 rs1 010 rd 0110011",
    "sltu": "0000000 rs2 rs1 011 rd 0110011",
    "xor": "0000000 rs2 rs1 100 rd 0110011",
    "srl": "0000000 rs2 rs1 101 rd 0110011",
    "sra": "0100000 rs2 rs1 101 rd 0110011",
    "or": "0000000 rs2 rs1 110 rd 0110011",
    "and": "0000000 rs2 rs1 111 rd 0110011",
    "fence": "imm[11:0] rs1 000 rd 0001111",
    "ecall": "000000000000 00000 000 00000 1110011",
    "ebreak": "000000000001 00000 000 00000 1110011",
    "addiw": "imm[11:0] rs1 000 rd 0011011",
    "slliw": "0000000 imm[4:0] rs1 001 rd 0011011",
    "srliw": "0000000 imm[4:0] rs1 101 rd 0011011",
    "sraiw": "0100000 imm[4:0] rs1 101 rd 0011011",
    "addw": "0000000 rs2 rs1 000 rd 0111011",
    "subw": "0100000 rs2 rs1 000 rd 0111011",
    "sllw": "0000000 rs2 rs1 001 rd 0111011",
    "srlw": "0000000 rs2 rs1 101 rd 0111011",
    "sraw": "0100000 rs2 rs1 101 rd 0111011",
    "mul": "0000001 rs2 rs1 000 rd 0110011",
    "mulh": "0000001 rs2 rs1 001 rd 0110011",
    "mulhsu": "0000001 rs2 rs1 010 rd 0110011",
    "mulhu": "0000001 rs2 rs1 011 rd 0110011",
    "div": "0000001 rs2 rs1 100 rd 0110011",
    "divu": "0000001 rs2 rs1 101 rd 0110011",
    "rem": "0000001 rs2 rs1 110 rd 0110011",
    "remu": "0000001 rs2 rs1 111 rd 0110011",
    "mulw": "0000001 rs2 rs1 000 rd 0111011",
    "divw": "0000001 rs2 rs1 100 rd 0111011",
    "divuw": "0000001 rs2 rs1 101 rd 0111011",
    "remw": "0000001 rs2 rs1 110 rd 0111011",
    "remuw": "0000001 rs2 rs1 111 rd 0111011",
}

# rd and rs1 are named by what the instruction does with them; a name with ' is one of the registers 8 to 15.
SHORT = {
    "c.addi4spn": "000 imm[5:4|9:6|2|3] rd' 00",
    "c.lw": "010 imm[5:3] rs1' imm[2|6] rd' 00",
    "c.ld": "011 imm[5:3] rs1' imm[7:6] rd' 00",
    "c.sw": "110 imm[5:3] rs1' imm[2|6] rs2' 00",
    "c.sd": "111 imm[5:3] rs1' imm[7:6] rs2' 00",
    "c.addi": "000 imm[5] rd imm[4:0] 01",
    "c.addiw": "001 imm[5] rd imm[4:0] 01",
    "c.li": "010 imm[5] rd imm[4:0] 01",
    "c.addi16sp": "011 imm[9] 00010 imm[4|6|8:7|5] 01",
    "c.lui": "011 imm[17] rd imm[16:12] 01",
    "c.srli": "100 imm[5] 00 rd' imm[4:0] 01",
    "c.srai": "100 imm[5] 01 rd' imm[4:0] 01",
    "c.andi": "100 imm[5] 10 rd' imm[4:0] 01",
    "c.sub": "100 0 11 rd' 00 rs2' 01",
    "c.xor": "100 0 11 rd' 01 rs2' 01",
    "c.or": "100 0 11 rd' 10 rs2' 01",
    "c.and": "100 0 11 rd' 11 rs2' 01",
    "c.subw": "100 1 11 rd' 00 rs2' 01",
    "c.addw": "100 1 11 rd' 01 rs2' 01",
    "c.j": "101 imm[11|4|9:8|10|6|7|3:1|5] 01",
    "c.beqz": "110 imm[8|4:3] rs1' imm[7:6|2:1|5] 01",
    "c.bnez": "111 imm[8|4:3] rs1' imm[7:6|2:1|5] 01",
    "c.slli": "000 imm[5] rd imm[4:0] 10",
    "c.lwsp": "010 imm[5] rd imm[4:2|7:6] 10",
    "c.ldsp": "011 imm[5] rd imm[4:3|8:6] 10",
    "c.jr": "100 0 rs1 00000 10",
    "c.mv": "100 0 rd rs2 10",
    "c.ebreak": "100 1 00000 00000 10",
    "c.jalr": "100 1 rs1 00000 10",
    "c.add": "100 1 rd rs2 10",
    "c.swsp": "110 imm[5:2|7:6] rs2 10",
    "c.sdsp": "111 imm[5:3|8:6] rs2 10",
}

ROWS = {**LONG, **SHORT}


def bit_numbers(token):
    """imm[4:2|6] names the bits 4, 3, 2, 6 in this order."""
    numbers = []
    for part in re.fullmatch(r"imm\[(.*)\]", token)[1].split("|"):
        ends = [int(end) for end in part.split(":")]
        numbers += range(ends[0], ends[-1] - 1, -1)
    return numbers


def pieces(name):
    """The row from its highest bit on: ("1", None) is a bit that is written, ("rd", 3) bit 3 of rd."""
    out = []
    for token in ROWS[name].split():
        if token.startswith("imm"):
            out += [("imm", k) for k in bit_numbers(token)]
        elif token.startswith("r"):
            out += [(token, k) for k in range(2 if token.endswith("'") else 4, -1, -1)]
        else:
            out += [(bit, None) for bit in token]
    return out


PIECES = {name: pieces(name) for name in ROWS}


def immediate_bits(name):
    return sorted(k for field, k in PIECES[name] if field == "imm")


def stands_for(field, fields):
    """What stands in the word for a register's number or an immediate; the lowest one where none is told."""
    if not field.endswith("'"):
        return fields.get(field, 0)
    number = fields.get(field.rstrip("'"), 8)
    if number not in range(8, 16):
        raise AssertionError("%d is none of 8 to 15" % number)
    return number - 8


def word(name, **fields):
    number = 0
    for field, k in PIECES[name]:
        number = number << 1 | (int(field) if k is None else stands_for(field, fields) >> k & 1)
    return number


def to_bytes(number):
    """The bytes of one word, which tells by its lowest bits how long it is."""
    return list(number.to_bytes(4 if number % 4 == 3 else 2, "little"))


def code(*words):
    return [byte for number in words for byte in to_bytes(number)]
