"""The processor itself: its registers, cells and slots, and the four parts of a cycle."""

from outoforder.arithmetic import calculated, jumps, wrapped
from outoforder.instructions import ADD_IMM, DIVIDE, HIGH_IMM, JUMP_TO_VALUE, LINK, LOAD, STOPPED_BY_CELL
from outoforder.instructions import STOPPED_BY_ZERO, STORE, Instruction, behind_program
from outoforder.slots import DONE, HAS_RUN, RUNS, WAITS, Slot

CELLS = 1024

# No place is below 0, so what is guessed so is always wrong.
NO_PLACE = -1


class Machine:
    def __init__(self, prog, cells, cfg):
        self.prog = [Instruction(place, word) for place, word in enumerate(prog)]
        self.cells = list(cells) + [0] * (CELLS - len(cells))
        self.regs = [0] * 16
        self.most_fetched = cfg[0]
        self.most_leaving = cfg[1]
        self.most_passed_on = cfg[2]
        self.most_slots = cfg[3]
        self.units = cfg[4:8]
        self.counters = [1] * cfg[8]
        self.stopped = 0
        self.cycles_run = 0
        self.have_left = 0
        self.thrown_away = 0
        self.wrong_guesses = 0
        self.fetch_from(0)

    def fetch_from(self, place):
        """Goes on there with no slot left: what is thrown away is behind one that was the first."""
        self.slots = []
        # For each register the last slot that sets it, None where there's none; one that has left
        # may stay, as the register holds its value then. Register 0 never has one: it's always 0,
        # whatever is put there, so its value is always there.
        self.setters = [None] * 16
        self.free_units = list(self.units)
        self.fetch_place = place

    def next_to_leave(self):
        """A place; before the first cycle alone there's no slot, and it's where fetching begins."""
        return self.slots[0].instruction.place if self.slots else self.fetch_place

    def run_cycles(self, cycles):
        while cycles > 0 and self.stopped == 0:
            self.run_cycle()
            cycles -= 1

    def run_cycle(self):
        self.cycles_run += 1
        self.let_leave()
        if self.stopped == 0:
            self.let_run_on()
            self.let_begin()
            self.fetch()

    def let_leave(self):
        may_leave = self.most_leaving
        while may_leave > 0 and self.slots and self.slots[0].state == DONE:
            slot = self.slots[0]
            if slot.stop != 0:
                self.stopped = slot.stop
                return
            self.slots.pop(0)
            may_leave -= 1
            self.have_left += 1
            self.keep_result(slot)
            if slot.guess != slot.goes_on:
                self.throw_away(slot.goes_on)
                return

    def throw_away(self, place):
        """Sets right a wrong guess of the one that has just left: all that there are were behind it."""
        self.wrong_guesses += 1
        self.thrown_away += len(self.slots)
        self.fetch_from(place)

    def keep_result(self, slot):
        if slot.instruction.written != 0:
            self.regs[slot.instruction.written] = slot.value
        if slot.op == STORE:
            self.cells[slot.cell] = slot.value
        if slot.instruction.branches and self.counters:
            self.count_branch(slot)

    def count_branch(self, slot):
        which = slot.instruction.place % len(self.counters)
        if slot.goes_on != slot.instruction.following:
            self.counters[which] = min(self.counters[which] + 1, 3)
        else:
            self.counters[which] = max(self.counters[which] - 1, 0)

    def let_run_on(self):
        # One walk does for both: whether a slot is passed on hangs on those in front of it alone.
        may_pass = self.most_passed_on
        for slot in self.slots:
            if slot.state == RUNS:
                slot.cycles_left -= 1
                if slot.cycles_left == 0:
                    slot.state = HAS_RUN
            if slot.state == HAS_RUN and may_pass > 0:
                may_pass -= 1
                self.free_units[slot.unit] += 1
                slot.pass_on()

    def let_begin(self):
        stores_done = True
        for k, slot in enumerate(self.slots):
            if slot.state == WAITS and slot.missing == 0 and self.free_units[slot.unit] > 0:
                if stores_done or slot.op != LOAD:
                    self.begin_slot(k, slot)
            if slot.op == STORE and slot.state != DONE:
                stores_done = False

    def begin_slot(self, k, slot):
        self.free_units[slot.unit] -= 1
        slot.state = RUNS
        slot.cycles_left = slot.instruction.cycles
        self.work_out(k, slot, slot.operands[0], slot.operands[1])

    def work_out(self, k, slot, first, second):
        op = slot.op
        instruction = slot.instruction
        if op == DIVIDE and second == 0:
            slot.stop = STOPPED_BY_ZERO
        elif op <= DIVIDE:
            slot.value = calculated(op, first, second)
        elif op == ADD_IMM:
            slot.value = wrapped(first + instruction.imm)
        elif op == HIGH_IMM:
            slot.value = wrapped(instruction.imm << 16)
        elif op == LOAD or op == STORE:
            self.work_out_cell(k, slot, wrapped(first + instruction.imm), second)
        elif op == LINK:
            slot.value = instruction.following
            slot.goes_on = instruction.target
        elif op == JUMP_TO_VALUE:
            slot.goes_on = first
        elif jumps(op, first, second):
            slot.goes_on = instruction.target

    def work_out_cell(self, k, slot, cell, stored):
        if cell >= CELLS:
            slot.stop = STOPPED_BY_CELL
            return
        slot.cell = cell
        slot.value = stored if slot.op == STORE else self.loaded(k, cell)

    def loaded(self, k, cell):
        """What slot k finds in the cell: stores in front of it that haven't left come first."""
        for slot in reversed(self.slots[:k]):
            if slot.op == STORE and slot.stop == 0 and slot.cell == cell:
                return slot.value
        return self.cells[cell]

    def fetch(self):
        may_fetch = min(self.most_fetched, self.most_slots - len(self.slots))
        while may_fetch > 0 and not self.fetching_ended():
            self.fetch_one()
            may_fetch -= 1

    def fetching_ended(self):
        if not self.slots:
            return False
        # Nothing is fetched behind an instruction that ends it, so that can only be the last.
        last = self.slots[-1].instruction
        return last.op == JUMP_TO_VALUE or last.sure_stop != 0

    def fetch_one(self):
        place = self.fetch_place
        instruction = self.prog[place] if place < len(self.prog) else behind_program(place)
        slot = Slot(instruction, self.guessed(instruction))
        self.take_operand(slot, 0, instruction.first)
        self.take_operand(slot, 1, instruction.second)
        if instruction.written != 0:
            self.setters[instruction.written] = slot
        self.slots.append(slot)
        self.fetch_place = slot.guess

    def take_operand(self, slot, which, read):
        setter = self.setters[read]
        if setter is None:
            slot.operands[which] = self.regs[read]
        elif setter.state == DONE:
            slot.operands[which] = setter.value
        else:
            setter.readers.append((slot, which))
            slot.missing += 1

    def guessed(self, instruction):
        """Where it's guessed to go on."""
        if instruction.op == JUMP_TO_VALUE:
            return NO_PLACE
        if instruction.op == LINK:
            return instruction.target
        if instruction.branches and self.guesses_jump(instruction.place):
            return instruction.target
        return instruction.following

    def guesses_jump(self, place):
        return len(self.counters) > 0 and self.counters[place % len(self.counters)] >= 2
