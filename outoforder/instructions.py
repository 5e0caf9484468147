"""An instruction: what its word and its place say before any value is known."""

from outoforder.arithmetic import wrapped

DIVIDE = 9
ADD_IMM = 10
HIGH_IMM = 11
LOAD = 12
STORE = 13
LINK = 17
JUMP_TO_VALUE = 18

STOPPED_BY_WORD = 1
STOPPED_BY_ZERO = 2
STOPPED_BY_CELL = 3
STOPPED_BY_OP = 4
STOPPED_BEHIND = 5

# Which of the four numbers of units in cfg counts; for all other ops it's the first.
UNITS = {8: 1, 9: 2, 12: 3, 13: 3}
# How many cycles it runs; all other ops run for one.
CYCLES = {8: 4, 9: 12, 12: 3}


def signed_half(word):
    low = word & 65535
    return low - 65536 if low >= 32768 else low


def sure_stop(op):
    """How it stops whatever the registers and cells hold; 0 if it needn't."""
    if op == 0:
        return STOPPED_BY_WORD
    return STOPPED_BY_OP if op > JUMP_TO_VALUE else 0


def first_read(op, a):
    """The first register that is read; 0, whose value is always there, if there's none."""
    if op == HIGH_IMM or op == LINK or sure_stop(op) != 0:
        return 0
    return a


def second_read(op, d, b):
    """The second register that is read; 0, whose value is always there, if there's none."""
    if 1 <= op <= 9:
        return b
    return d if 13 <= op <= 16 else 0


def written(op, d):
    """The register that is set; 0, which stays as it is, if there's none."""
    return d if 1 <= op <= 12 or op == LINK else 0


class Instruction:
    """The parts of a word that the cycles ask for, taken apart once for each place."""

    def __init__(self, place, word):
        d = (word >> 20) & 15
        self.place = place
        self.word = word
        self.op = word >> 24
        self.imm = signed_half(word)
        self.first = first_read(self.op, (word >> 16) & 15)
        self.second = second_read(self.op, d, (word >> 12) & 15)
        self.written = written(self.op, d)
        self.following = wrapped(place + 1)
        self.target = wrapped(place + 1 + self.imm)
        self.branches = 14 <= self.op <= 16
        self.unit = UNITS.get(self.op, 0)
        self.cycles = CYCLES.get(self.op, 1)
        self.sure_stop = sure_stop(self.op)


def behind_program(place):
    """What is fetched where the program has no word."""
    instruction = Instruction(place, 0)
    instruction.sure_stop = STOPPED_BEHIND
    return instruction
