"""The calls on one processor, handed in and answered as one list of whole numbers."""

from outoforder.arithmetic import wrapped
from outoforder.machine import CELLS, Machine

BEGIN_REFUSED = -3
OUT_OF_RANGE = -2
NO_SUCH_SLOT = -3
MOST_CYCLES = 1000000
LAST_SLOT = 63

RUN = 1
REGS = 2
TELL_CELLS = 3
TOLD = 4
SLOT = 5

# The least and the most of each number of cfg.
CFG_RANGES = ((1, 4), (1, 4), (1, 4), (1, 64), (1, 4), (1, 4), (1, 4), (1, 4), (0, 256))


class UnknownCall(ValueError):
    """A call's number that stands for none."""


class Reader:
    """Takes the numbers of a list one behind another, and leaves the list as it is."""

    def __init__(self, numbers):
        self.numbers = numbers
        self.at = 0

    def at_end(self):
        return self.at >= len(self.numbers)

    def take_number(self):
        number = self.numbers[self.at]
        self.at += 1
        return number

    def take_row(self):
        length = self.take_number()
        row = self.numbers[self.at:self.at + length]
        self.at += length
        return row


def is_as_told(cfg):
    for number, bounds in zip(cfg, CFG_RANGES):
        if number < bounds[0] or number > bounds[1]:
            return False
    return True


def run_answer(machine, cycles):
    if cycles < 0 or cycles > MOST_CYCLES:
        return [OUT_OF_RANGE]
    machine.run_cycles(cycles)
    return [machine.stopped]


def cells_answer(machine, a, n):
    # Where neither is below 0, one that's above 1024 makes the sum so too.
    if a < 0 or n < 0 or a + n > CELLS:
        return [OUT_OF_RANGE]
    return [n] + machine.cells[a:a + n]


def told_answer(machine):
    counts = [machine.cycles_run, machine.have_left, machine.thrown_away, machine.wrong_guesses]
    return [machine.stopped] + [wrapped(count) for count in counts] + [len(machine.slots), machine.next_to_leave()]


def slot_answer(machine, k):
    if k < 0 or k > LAST_SLOT:
        return [OUT_OF_RANGE]
    if k >= len(machine.slots):
        return [NO_SUCH_SLOT]
    slot = machine.slots[k]
    return [0, slot.instruction.place, slot.instruction.word, slot.state, slot.cycles_left, slot.value]


def call_answer(machine, reader):
    number = reader.take_number()
    if number == RUN:
        return run_answer(machine, reader.take_number())
    if number == REGS:
        return [0] + machine.regs
    if number == TELL_CELLS:
        a = reader.take_number()
        return cells_answer(machine, a, reader.take_number())
    if number == TOLD:
        return told_answer(machine)
    if number == SLOT:
        return slot_answer(machine, reader.take_number())
    raise UnknownCall(f"no call has the number {number}")


def answers(calls):
    reader = Reader(calls)
    # The first number says begin, which it always is.
    reader.take_number()
    prog = reader.take_row()
    cells = reader.take_row()
    cfg = reader.take_row()
    if not is_as_told(cfg):
        return [1, BEGIN_REFUSED]
    machine = Machine(prog, cells, cfg)
    told = [1, 0]
    while not reader.at_end():
        answer = call_answer(machine, reader)
        told.append(len(answer))
        told.extend(answer)
    return told
