"""The calls on one processor, handed in and answered as one list of whole numbers."""

from outoforder.machine import Machine

BEGIN_REFUSED = -3
RUN_REFUSED = -2
MOST_CYCLES = 1000000

RUN = 1
REGS = 2

# The least and the most of each number of cfg.
CFG_RANGES = ((1, 4), (1, 4), (1, 4), (1, 64), (1, 4), (1, 4), (1, 4), (1, 4), (0, 256))


class UnknownCall(ValueError):
    """A call's number that stands for none."""


class Reader:
    """Takes the numbers of a list one behind another, and leaves the list as it is."""

    def __init__(self, numbers):
        self.numbers = numbers
        self.at = 0

    def at_end(self):
        return self.at >= len(self.numbers)

    def take_number(self):
        number = self.numbers[self.at]
        self.at += 1
        return number

    def take_row(self):
        length = self.take_number()
        row = self.numbers[self.at:self.at + length]
        self.at += length
        return row


def is_as_told(cfg):
    for number, bounds in zip(cfg, CFG_RANGES):
        if number < bounds[0] or number > bounds[1]:
            return False
    return True


def run_answer(machine, cycles):
    if cycles < 0 or cycles > MOST_CYCLES:
        return [RUN_REFUSED]
    machine.run_cycles(cycles)
    return [machine.stopped]


def call_answer(machine, reader):
    number = reader.take_number()
    if number == RUN:
        return run_answer(machine, reader.take_number())
    if number == REGS:
        return [0] + machine.regs
    raise UnknownCall(f"no call has the number {number}")


def answers(calls):
    reader = Reader(calls)
    # The first number says begin, which it always is.
    reader.take_number()
    prog = reader.take_row()
    cells = reader.take_row()
    cfg = reader.take_row()
    if not is_as_told(cfg):
        return [1, BEGIN_REFUSED]
    machine = Machine(prog, cells, cfg)
    told = [1, 0]
    while not reader.at_end():
        answer = call_answer(machine, reader)
        told.append(len(answer))
        told.extend(answer)
    return told
