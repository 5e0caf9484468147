"""A slot: an instruction that has been fetched, and how far it has come."""

WAITS = 0
RUNS = 1
HAS_RUN = 2
DONE = 3


class Slot:
    def __init__(self, instruction, guess):
        self.instruction = instruction
        self.guess = guess
        self.op = instruction.op
        self.unit = instruction.unit
        self.stop = instruction.sure_stop
        self.state = WAITS if self.stop == 0 else DONE
        self.goes_on = instruction.following
        self.cycles_left = 0
        self.value = 0
        self.cell = 0
        # The values that it reads, and how many of them aren't there yet.
        self.operands = [0, 0]
        self.missing = 0
        # The slots that wait for this one's value, each with which of its operands that is.
        self.readers = []

    def pass_on(self):
        """It's done. One that stops has the value 0, and that is what its readers get."""
        self.state = DONE
        for reader, which in self.readers:
            reader.operands[which] = self.value
            reader.missing -= 1
        self.readers = []
