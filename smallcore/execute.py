"""Does instructions on a machine: each function gives back what stops the machine, or NOT_STOPPED."""

from smallcore.arithmetic import branch_holds, compute
from smallcore.bits import extend, wrap
from smallcore.long_words import read_long
from smallcore.short_words import read_short

NOT_STOPPED = 0
NOT_IN_MEMORY = 4
STOPS = {"ecall": 1, "ebreak": 2, "reserved": 3}
SIZES = {"lb": 1, "lh": 2, "lw": 4, "ld": 8, "lbu": 1, "lhu": 2, "lwu": 4, "sb": 1, "sh": 2, "sw": 4, "sd": 8}
SIGNED_LOADS = ("lb", "lh", "lw")
# As many as there are places in memory for an instruction: what stands there at one time can all be known.
MOST_KNOWN_WORDS = 32768


def do_registers(machine, instruction, after):
    first = machine.registers[instruction.first]
    second = machine.registers[instruction.second]
    machine.write_register(instruction.target, compute(instruction.name, first, second))
    machine.pc = after
    return NOT_STOPPED


def do_immediate(machine, instruction, after):
    first = machine.registers[instruction.first]
    machine.write_register(instruction.target, compute(instruction.name, first, instruction.immediate))
    machine.pc = after
    return NOT_STOPPED


def do_pc(machine, instruction, after):
    machine.write_register(instruction.target, wrap(machine.pc + instruction.immediate))
    machine.pc = after
    return NOT_STOPPED


def address_of(machine, instruction):
    return wrap(machine.registers[instruction.first] + instruction.immediate)


def do_load(machine, instruction, after):
    address = address_of(machine, instruction)
    size = SIZES[instruction.name]
    if not machine.memory.holds(address, size):
        return NOT_IN_MEMORY
    number = machine.memory.load_number(address, size)
    if instruction.name in SIGNED_LOADS:
        number = extend(number, 8 * size)
    machine.write_register(instruction.target, number)
    machine.pc = after
    return NOT_STOPPED


def do_store(machine, instruction, after):
    address = address_of(machine, instruction)
    size = SIZES[instruction.name]
    if not machine.memory.holds(address, size):
        return NOT_IN_MEMORY
    machine.memory.store_number(address, size, machine.registers[instruction.second])
    machine.pc = after
    return NOT_STOPPED


def do_branch(machine, instruction, after):
    first = machine.registers[instruction.first]
    second = machine.registers[instruction.second]
    if branch_holds(instruction.name, first, second):
        machine.pc = wrap(machine.pc + instruction.immediate)
    else:
        machine.pc = after
    return NOT_STOPPED


def do_jump(machine, instruction, after):
    machine.write_register(instruction.target, after)
    machine.pc = wrap(machine.pc + instruction.immediate)
    return NOT_STOPPED


def do_jump_to(machine, instruction, after):
    # Asked ahead of the write, as the target may be the very register that tells the place.
    place = address_of(machine, instruction)
    machine.write_register(instruction.target, after)
    machine.pc = place - place % 2
    return NOT_STOPPED


def do_nothing(machine, instruction, after):
    machine.pc = after
    return NOT_STOPPED


def do_stop(machine, instruction, after):
    return STOPS[instruction.name]


DOERS = {
    "registers": do_registers, "immediate": do_immediate, "pc": do_pc, "load": do_load, "store": do_store,
    "branch": do_branch, "jump": do_jump, "jump to": do_jump_to, "nothing": do_nothing, "stop": do_stop,
}


def length_of(word):
    return 4 if word % 4 == 3 else 2


def fetch(machine):
    """The bytes of the instruction at pc as one number, or None if they are not all in memory."""
    memory = machine.memory
    pc = machine.pc
    if not memory.holds(pc, 2):
        return None
    half = memory.load_half(pc)
    if length_of(half) == 2:
        return half
    if not memory.holds(pc + 2, 2):
        return None
    return half | (memory.load_half(pc + 2) << 16)


def read_word(word):
    if length_of(word) == 2:
        return read_short(word)
    return read_long(word)


def instruction_of(machine, word):
    # Kept by the word, not by its address: a word says the same wherever it stands, even where it was just stored.
    known_words = machine.known_words
    if word not in known_words:
        # A program may store words that are always new: all are forgotten in time, so that room for them has an end.
        if len(known_words) >= MOST_KNOWN_WORDS:
            known_words.clear()
        known_words[word] = read_word(word)
    return known_words[word]


def do_next(machine):
    word = fetch(machine)
    if word is None:
        return NOT_IN_MEMORY
    instruction = instruction_of(machine, word)
    after = wrap(machine.pc + length_of(word))
    return DOERS[instruction.form](machine, instruction, after)
