"""What an instruction says, however it was written: long and short words are read into the same few forms."""


class Instruction:
    def __init__(self, form, name, target, first, second, immediate):
        self.form = form
        self.name = name
        self.target = target
        self.first = first
        self.second = second
        # Of 64 bits, so that adding it and wrapping counts backwards too.
        self.immediate = immediate


def of_registers(name, target, first, second):
    return Instruction("registers", name, target, first, second, 0)


def of_immediate(name, target, first, immediate):
    return Instruction("immediate", name, target, first, 0, immediate)


def of_pc(target, immediate):
    return Instruction("pc", "auipc", target, 0, 0, immediate)


def of_load(name, target, first, immediate):
    return Instruction("load", name, target, first, 0, immediate)


def of_store(name, first, second, immediate):
    return Instruction("store", name, 0, first, second, immediate)


def of_branch(name, first, second, immediate):
    return Instruction("branch", name, 0, first, second, immediate)


def of_jump(target, immediate):
    return Instruction("jump", "jal", target, 0, 0, immediate)


def of_jump_to(target, first, immediate):
    return Instruction("jump to", "jalr", target, first, 0, immediate)


def of_nothing():
    return Instruction("nothing", "fence", 0, 0, 0, 0)


def of_stop(name):
    return Instruction("stop", name, 0, 0, 0, 0)


def of_reserved():
    """What is no instruction here, or is kept back for later ones."""
    return of_stop("reserved")
