"""The assembler of these tests writes the words that a public assembler writes."""

import unittest

from assembler import ROWS, word

# Each row: an instruction, its fields, and the word that llvm-mc wrote for it (as a number, highest digit first).
KNOWN = """
lui rd=9 imm=4096 000014b7; lui rd=13 imm=8192 000026b7; lui rd=14 imm=16384 00004737; lui rd=6 imm=32768 00008337;
lui rd=8 imm=65536 00010437; lui rd=24 imm=131072 00020c37; lui rd=3 imm=262144 000401b7;
lui rd=4 imm=524288 00080237; lui rd=6 imm=1048576 00100337; lui rd=9 imm=2097152 002004b7;
lui rd=27 imm=4194304 00400db7; lui rd=18 imm=8388608 00800937; lui rd=8 imm=16777216 01000437;
lui rd=14 imm=33554432 02000737; lui rd=22 imm=67108864 04000b37; lui rd=1 imm=134217728 080000b7;
lui rd=16 imm=268435456 10000837; lui rd=17 imm=536870912 200008b7; lui rd=16 imm=1073741824 40000837;
lui rd=14 imm=-2147483648 80000737; auipc rd=20 imm=134217728 08000a17; auipc rd=8 imm=-2147483648 80000417;
jal rd=30 imm=2 00200f6f; jal rd=28 imm=4 00400e6f; jal rd=14 imm=8 0080076f; jal rd=4 imm=16 0100026f;
jal rd=17 imm=32 020008ef; jal rd=9 imm=64 040004ef; jal rd=26 imm=128 08000d6f; jal rd=1 imm=256 100000ef;
jal rd=24 imm=512 20000c6f; jal rd=10 imm=1024 4000056f; jal rd=18 imm=2048 0010096f; jal rd=15 imm=4096 000017ef;
jal rd=17 imm=8192 000028ef; jal rd=30 imm=16384 00004f6f; jal rd=31 imm=32768 00008fef;
jal rd=14 imm=65536 0001076f; jal rd=25 imm=131072 00020cef; jal rd=5 imm=262144 000402ef;
jal rd=23 imm=524288 00080bef; jal rd=10 imm=-1048576 8000056f; jalr rd=4 rs1=28 imm=2 002e0267;
jalr rd=21 rs1=14 imm=-2048 80070ae7; beq rs1=14 rs2=28 imm=2 01c70163; beq rs1=23 rs2=5 imm=4 005b8263;
beq rs1=12 rs2=3 imm=8 00360463; beq rs1=24 rs2=9 imm=16 009c0863; beq rs1=17 rs2=4 imm=32 02488063;
beq rs1=22 rs2=30 imm=64 05eb0063; beq rs1=30 rs2=18 imm=128 092f0063; beq rs1=20 rs2=8 imm=256 108a0063;
beq rs1=6 rs2=27 imm=512 21b30063; beq rs1=4 rs2=21 imm=1024 41520063; beq rs1=3 rs2=19 imm=2048 013180e3;
beq rs1=24 rs2=17 imm=-4096 811c0063; bne rs1=29 rs2=6 imm=16 006e9863; bne rs1=16 rs2=20 imm=-4096 81481063;
blt rs1=16 rs2=30 imm=1024 41e84063; blt rs1=19 rs2=11 imm=-4096 80b9c063; bge rs1=30 rs2=29 imm=64 05df5063;
bge rs1=6 rs2=15 imm=-4096 80f35063; bltu rs1=21 rs2=26 imm=8 01aae463; bltu rs1=19 rs2=5 imm=-4096 8059e063;
bgeu rs1=13 rs2=24 imm=64 0586f063; bgeu rs1=28 rs2=22 imm=-4096 816e7063; lb rd=21 rs1=18 imm=128 08090a83;
lb rd=11 rs1=8 imm=-2048 80040583; lh rd=18 rs1=13 imm=4 00469903; lh rd=18 rs1=11 imm=-2048 80059903;
lw rd=4 rs1=23 imm=1 001ba203; lw rd=30 rs1=27 imm=2 002daf03; lw rd=18 rs1=29 imm=4 004ea903;
lw rd=24 rs1=31 imm=8 008fac03; lw rd=9 rs1=19 imm=16 0109a483; lw rd=9 rs1=13 imm=32 0206a483;
lw rd=1 rs1=31 imm=64 040fa083; lw rd=12 rs1=11 imm=128 0805a603; lw rd=10 rs1=9 imm=256 1004a503;
lw rd=15 rs1=3 imm=512 2001a783; lw rd=14 rs1=10 imm=1024 40052703; lw rd=28 rs1=11 imm=-2048 8005ae03;
ld rd=23 rs1=7 imm=64 0403bb83; ld rd=5 rs1=14 imm=-2048 80073283; lbu rd=23 rs1=31 imm=4 004fcb83;
lbu rd=1 rs1=29 imm=-2048 800ec083; lhu rd=7 rs1=26 imm=8 008d5383; lhu rd=5 rs1=11 imm=-2048 8005d283;
lwu rd=26 rs1=27 imm=1 001ded03; lwu rd=12 rs1=14 imm=-2048 80076603; sb rs1=15 rs2=20 imm=4 01478223;
sb rs1=9 rs2=30 imm=-2048 81e48023; sh rs1=20 rs2=15 imm=4 00fa1223; sh rs1=15 rs2=16 imm=-2048 81079023;
sw rs1=20 rs2=4 imm=64 044a2023; sw rs1=11 rs2=4 imm=-2048 8045a023; sd rs1=5 rs2=24 imm=1 0182b0a3;
sd rs1=4 rs2=3 imm=2 00323123; sd rs1=5 rs2=23 imm=4 0172b223; sd rs1=18 rs2=26 imm=8 01a93423;
sd rs1=13 rs2=18 imm=16 0126b823; sd rs1=27 rs2=6 imm=32 026db023; sd rs1=18 rs2=31 imm=64 05f93023;
sd rs1=24 rs2=17 imm=128 091c3023; sd rs1=21 rs2=6 imm=256 106ab023; sd rs1=8 rs2=4 imm=512 20443023;
sd rs1=31 rs2=1 imm=1024 401fb023; sd rs1=12 rs2=6 imm=-2048 80663023; addi rd=20 rs1=23 imm=64 040b8a13;
addi rd=25 rs1=5 imm=-2048 80028c93; slti rd=12 rs1=13 imm=16 0106a613; slti rd=1 rs1=13 imm=-2048 8006a093;
sltiu rd=17 rs1=28 imm=1024 400e3893; sltiu rd=3 rs1=8 imm=-2048 80043193; xori rd=30 rs1=3 imm=512 2001cf13;
xori rd=26 rs1=29 imm=-2048 800ecd13; ori rd=7 rs1=7 imm=512 2003e393; ori rd=15 rs1=12 imm=-2048 80066793;
andi rd=4 rs1=5 imm=128 0802f213; andi rd=21 rs1=8 imm=-2048 80047a93; slli rd=27 rs1=17 imm=2 00289d93;
slli rd=27 rs1=17 imm=32 02089d93; srli rd=5 rs1=14 imm=2 00275293; srli rd=20 rs1=5 imm=32 0202da13;
srai rd=6 rs1=22 imm=8 408b5313; srai rd=16 rs1=25 imm=32 420cd813; add rd=4 rs1=25 rs2=18 012c8233;
sub rd=17 rs1=31 rs2=24 418f88b3; sll rd=28 rs1=14 rs2=20 01471e33; slt rd=9 rs1=16 rs2=13 00d824b3;
sltu rd=3 rs1=8 rs2=3 003431b3; xor rd=5 rs1=5 rs2=16 0102c2b3; srl rd=1 rs1=25 rs2=8 008cd0b3;
sra rd=21 rs1=21 rs2=24 418adab3; or rd=22 rs1=1 rs2=31 01f0eb33; and rd=15 rs1=28 rs2=13 00de77b3;
fence rd=0 rs1=0 imm=255 0ff0000f; ecall 00000073; ebreak 00100073; addiw rd=25 rs1=4 imm=256 10020c9b;
addiw rd=21 rs1=26 imm=-2048 800d0a9b; slliw rd=9 rs1=18 imm=2 0029149b; slliw rd=18 rs1=12 imm=16 0106191b;
srliw rd=18 rs1=25 imm=8 008cd91b; srliw rd=8 rs1=22 imm=16 010b541b; sraiw rd=21 rs1=11 imm=1 4015da9b;
sraiw rd=31 rs1=11 imm=16 4105df9b; addw rd=12 rs1=25 rs2=4 004c863b; subw rd=14 rs1=31 rs2=31 41ff873b;
sllw rd=11 rs1=22 rs2=9 009b15bb; srlw rd=15 rs1=19 rs2=4 0049d7bb; sraw rd=27 rs1=13 rs2=25 4196ddbb;
mul rd=12 rs1=29 rs2=25 039e8633; mulh rd=22 rs1=11 rs2=18 03259b33; mulhsu rd=27 rs1=13 rs2=28 03c6adb3;
mulhu rd=22 rs1=11 rs2=30 03e5bb33; div rd=8 rs1=5 rs2=29 03d2c433; divu rd=14 rs1=13 rs2=17 0316d733;
rem rd=31 rs1=29 rs2=20 034eefb3; remu rd=11 rs1=8 rs2=11 02b475b3; mulw rd=14 rs1=21 rs2=14 02ea873b;
divw rd=23 rs1=31 rs2=28 03cfcbbb; divuw rd=24 rs1=31 rs2=18 032fdc3b; remw rd=28 rs1=13 rs2=25 0396ee3b;
remuw rd=20 rs1=21 rs2=23 037afa3b; c.addi4spn rd=13 imm=4 0054; c.addi4spn rd=14 imm=8 0038;
c.addi4spn rd=11 imm=16 080c; c.addi4spn rd=15 imm=32 101c; c.addi4spn rd=9 imm=64 0084;
c.addi4spn rd=12 imm=128 0110; c.addi4spn rd=10 imm=256 0208; c.addi4spn rd=9 imm=512 0404;
c.lw rd=12 rs1=15 imm=4 43d0; c.lw rd=9 rs1=14 imm=8 4704; c.lw rd=12 rs1=12 imm=16 4a10;
c.lw rd=12 rs1=12 imm=32 5210; c.lw rd=14 rs1=12 imm=64 4238; c.ld rd=13 rs1=11 imm=8 6594;
c.ld rd=11 rs1=11 imm=16 698c; c.ld rd=11 rs1=15 imm=32 738c; c.ld rd=11 rs1=11 imm=64 61ac;
c.ld rd=15 rs1=13 imm=128 62dc; c.sw rs1=9 rs2=9 imm=4 c0c4; c.sw rs1=14 rs2=9 imm=8 c704;
c.sw rs1=10 rs2=14 imm=16 c918; c.sw rs1=8 rs2=10 imm=32 d008; c.sw rs1=8 rs2=11 imm=64 c02c;
c.sd rs1=12 rs2=9 imm=8 e604; c.sd rs1=9 rs2=15 imm=16 e89c; c.sd rs1=15 rs2=12 imm=32 f390;
c.sd rs1=9 rs2=10 imm=64 e0a8; c.sd rs1=13 rs2=9 imm=128 e2c4; c.addi rd=12 imm=1 0605; c.addi rd=27 imm=2 0d89;
c.addi rd=3 imm=4 0191; c.addi rd=28 imm=8 0e21; c.addi rd=31 imm=16 0fc1; c.addi rd=4 imm=-32 1201;
c.addiw rd=29 imm=1 2e85; c.addiw rd=6 imm=2 2309; c.addiw rd=22 imm=4 2b11; c.addiw rd=27 imm=8 2da1;
c.addiw rd=13 imm=16 26c1; c.addiw rd=28 imm=-32 3e01; c.li rd=4 imm=1 4205; c.li rd=28 imm=2 4e09;
c.li rd=9 imm=4 4491; c.li rd=25 imm=8 4ca1; c.li rd=3 imm=16 41c1; c.li rd=21 imm=-32 5a81; c.addi16sp imm=16 6141;
c.addi16sp imm=32 6105; c.addi16sp imm=64 6121; c.addi16sp imm=128 6109; c.addi16sp imm=256 6111;
c.addi16sp imm=-512 7101; c.lui rd=27 imm=4096 6d85; c.lui rd=12 imm=8192 6609; c.lui rd=9 imm=16384 6491;
c.lui rd=11 imm=32768 65a1; c.lui rd=25 imm=65536 6cc1; c.lui rd=13 imm=-131072 7681; c.srli rd=13 imm=1 8285;
c.srli rd=9 imm=2 8089; c.srli rd=9 imm=4 8091; c.srli rd=13 imm=8 82a1; c.srli rd=14 imm=16 8341;
c.srli rd=10 imm=32 9101; c.srai rd=10 imm=1 8505; c.srai rd=12 imm=2 8609; c.srai rd=14 imm=4 8711;
c.srai rd=10 imm=8 8521; c.srai rd=14 imm=16 8741; c.srai rd=9 imm=32 9481; c.andi rd=9 imm=1 8885;
c.andi rd=11 imm=2 8989; c.andi rd=9 imm=4 8891; c.andi rd=12 imm=8 8a21; c.andi rd=10 imm=16 8941;
c.andi rd=13 imm=-32 9a81; c.sub rd=11 rs2=9 8d85; c.xor rd=8 rs2=8 8c21; c.or rd=10 rs2=10 8d49;
c.and rd=13 rs2=12 8ef1; c.subw rd=11 rs2=15 9d9d; c.addw rd=9 rs2=9 9ca5; c.j imm=2 a009; c.j imm=4 a011;
c.j imm=8 a021; c.j imm=16 a801; c.j imm=32 a005; c.j imm=64 a081; c.j imm=128 a041; c.j imm=256 a201;
c.j imm=512 a401; c.j imm=1024 a101; c.j imm=-2048 b001; c.beqz rs1=10 imm=2 c109; c.beqz rs1=10 imm=4 c111;
c.beqz rs1=11 imm=8 c581; c.beqz rs1=13 imm=16 ca81; c.beqz rs1=11 imm=32 c185; c.beqz rs1=14 imm=64 c321;
c.beqz rs1=10 imm=128 c141; c.beqz rs1=10 imm=-256 d101; c.bnez rs1=10 imm=2 e109; c.bnez rs1=15 imm=4 e391;
c.bnez rs1=8 imm=8 e401; c.bnez rs1=15 imm=16 eb81; c.bnez rs1=12 imm=32 e205; c.bnez rs1=14 imm=64 e321;
c.bnez rs1=14 imm=128 e341; c.bnez rs1=13 imm=-256 f281; c.slli rd=24 imm=1 0c06; c.slli rd=20 imm=2 0a0a;
c.slli rd=24 imm=4 0c12; c.slli rd=17 imm=8 08a2; c.slli rd=29 imm=16 0ec2; c.slli rd=13 imm=32 1682;
c.lwsp rd=25 imm=4 4c92; c.lwsp rd=29 imm=8 4ea2; c.lwsp rd=26 imm=16 4d42; c.lwsp rd=18 imm=32 5902;
c.lwsp rd=7 imm=64 4386; c.lwsp rd=11 imm=128 458a; c.ldsp rd=10 imm=8 6522; c.ldsp rd=23 imm=16 6bc2;
c.ldsp rd=17 imm=32 7882; c.ldsp rd=28 imm=64 6e06; c.ldsp rd=6 imm=128 630a; c.ldsp rd=28 imm=256 6e12;
c.jr rs1=28 8e02; c.mv rd=10 rs2=17 8546; c.ebreak 9002; c.jalr rs1=22 9b02; c.add rd=18 rs2=19 994e;
c.swsp rs2=27 imm=4 c26e; c.swsp rs2=31 imm=8 c47e; c.swsp rs2=18 imm=16 c84a; c.swsp rs2=11 imm=32 d02e;
c.swsp rs2=27 imm=64 c0ee; c.swsp rs2=8 imm=128 c122; c.sdsp rs2=20 imm=8 e452; c.sdsp rs2=18 imm=16 e84a;
c.sdsp rs2=14 imm=32 f03a; c.sdsp rs2=26 imm=64 e0ea; c.sdsp rs2=6 imm=128 e11a; c.sdsp rs2=28 imm=256 e272
"""


def known():
    """The rows as (name, fields, word)."""
    for row in KNOWN.replace("\n", " ").split(";"):
        parts = row.split()
        fields = {part.split("=")[0]: int(part.split("=")[1]) for part in parts[1:-1]}
        yield parts[0], fields, int(parts[-1], 16)


class Words(unittest.TestCase):
    def test_every_row(self):
        for name, fields, number in known():
            self.assertEqual(word(name, **fields), number, (name, fields))

    def test_every_instruction_has_a_row(self):
        self.assertEqual({row[0] for row in known()}, set(ROWS))


if __name__ == "__main__":
    unittest.main()
