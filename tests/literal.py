"""The document followed word by word and without any haste, to hold the program against.

Slots are dicts, and each question about slots in front is answered by looking at all of them.
"""

TOP = 2 ** 32


def sign(number, bits):
    return number - 2 ** bits if number >= 2 ** (bits - 1) else number


def parts(word):
    return word >> 24, word >> 20 & 15, word >> 16 & 15, word >> 12 & 15, sign(word % 65536, 16)


def does(word, place, reg, load):
    """(how it stops, what d or the cell becomes, which cell, the next place), one after another.

    reg tells a register's value, load a cell's.
    """
    op, d, a, b, imm = parts(word)
    after = (place + 1) % TOP
    jump = (place + 1 + imm) % TOP
    if op == 0:
        return 1, 0, None, after
    if op == 9 and reg(b) == 0:
        return 2, 0, None, after
    if op <= 9:
        x, y = reg(a), reg(b)
        results = {
            1: lambda: x + y, 2: lambda: x - y, 3: lambda: x & y, 4: lambda: x | y, 5: lambda: x ^ y,
            6: lambda: x << y % 32, 7: lambda: x >> y % 32, 8: lambda: x * y, 9: lambda: x // y,
        }
        return 0, results[op]() % TOP, None, after
    if op == 10:
        return 0, (reg(a) + imm) % TOP, None, after
    if op == 11:
        return 0, word % 65536 << 16, None, after
    if op in (12, 13):
        cell = (reg(a) + imm) % TOP
        if cell > 1023:
            return 3, 0, None, after
        return 0, load(cell) if op == 12 else reg(d), cell, after
    if op == 14:
        return 0, 0, None, jump if reg(a) == reg(d) else after
    if op == 15:
        return 0, 0, None, jump if reg(a) != reg(d) else after
    if op == 16:
        return 0, 0, None, jump if sign(reg(a), 32) < sign(reg(d), 32) else after
    if op == 17:
        return 0, after, None, jump
    if op == 18:
        return 0, 0, None, reg(a)
    return 4, 0, None, after


def sets_register(op):
    return 1 <= op <= 12 or op == 17


def one_after_another(prog, cells, most):
    """How it stops (0 if it hasn't after so many), the registers, the cells, how many were done, the place."""
    regs = [0] * 16
    cells = list(cells) + [0] * (1024 - len(cells))
    place = 0
    for count in range(most):
        if place >= len(prog):
            return 5, regs, cells, count, place
        op, d = parts(prog[place])[:2]
        stop, value, cell, after = does(prog[place], place, lambda r: regs[r], lambda c: cells[c])
        if stop:
            return stop, regs, cells, count, place
        if sets_register(op) and d:
            regs[d] = value
        if op == 13:
            cells[cell] = value
        place = after
    return 0, regs, cells, most, place


class Literal:
    def __init__(self, prog, cells, cfg):
        self.prog = list(prog)
        self.cells = list(cells) + [0] * (1024 - len(cells))
        self.cfg = list(cfg)
        self.counters = [1] * cfg[8]
        self.regs = [0] * 16
        self.place = 0
        self.slots = []
        self.stopped = 0
        self.cycles = 0
        self.left = 0
        self.thrown = 0
        self.wrong = 0

    def answer(self, call):
        """What a call other than begin answers, the call as it stands in the list."""
        if call[0] == 1:
            return self.run(call[1])
        if call[0] == 2:
            return [0, *self.regs]
        if call[0] == 3:
            return self.some_cells(call[1], call[2])
        return self.told() if call[0] == 4 else self.slot(call[1])

    def run(self, cycles):
        if not 0 <= cycles <= 1000000:
            return [-2]
        for _ in range(cycles):
            self.cycle()
        return [self.stopped]

    def some_cells(self, a, n):
        if not (0 <= a <= 1024 and 0 <= n <= 1024 and a + n <= 1024):
            return [-2]
        return [n, *self.cells[a:a + n]]

    def told(self):
        place = self.slots[0]['place'] if self.slots else self.place
        return [self.stopped, self.cycles, self.left, self.thrown, self.wrong, len(self.slots), place]

    def slot(self, k):
        if not 0 <= k <= 63:
            return [-2]
        if k >= len(self.slots):
            return [-3]
        slot = self.slots[k]
        return [0, slot['place'], slot['word'], slot['state'], slot['left'] if slot['state'] == 1 else 0, slot['value']]

    def cycle(self):
        if self.stopped:
            return
        self.cycles += 1
        self.leave()
        if not self.stopped:
            self.run_on()
            self.begin()
            self.fetch()

    def leave(self):
        for _ in range(self.cfg[1]):
            if not self.slots or self.slots[0]['state'] != 3:
                return
            slot = self.slots[0]
            if slot['stop']:
                self.stopped = slot['stop']
                return
            self.slots = self.slots[1:]
            self.left += 1
            if sets_register(slot['op']) and slot['d']:
                self.regs[slot['d']] = slot['value']
            if slot['op'] == 13:
                self.cells[slot['cell']] = slot['value']
            if slot['op'] in (14, 15, 16) and self.counters:
                which = slot['place'] % len(self.counters)
                step = 1 if slot['next'] != (slot['place'] + 1) % TOP else -1
                self.counters[which] = min(3, max(0, self.counters[which] + step))
            if slot['guess'] != slot['next']:
                self.wrong += 1
                self.thrown += len(self.slots)
                self.slots = []
                self.place = slot['next']
                return

    def run_on(self):
        for slot in self.slots:
            if slot['state'] == 1:
                slot['left'] -= 1
                if slot['left'] == 0:
                    slot['state'] = 2
        for slot in [slot for slot in self.slots if slot['state'] == 2][:self.cfg[2]]:
            slot['state'] = 3

    def begin(self):
        for k, slot in enumerate(self.slots):
            if slot['state'] == 0 and self.may_begin(k):
                slot['stop'], slot['value'], slot['cell'], slot['next'] = does(
                    slot['word'], slot['place'], lambda r: self.value(k, r), lambda c: self.loaded(k, c))
                slot['left'] = {8: 4, 9: 12, 12: 3}.get(slot['op'], 1)
                slot['state'] = 1

    def may_begin(self, k):
        slot = self.slots[k]
        front = self.slots[:k]
        if not all(self.is_there(k, which) for which in self.registers(slot)):
            return False
        same = [other for other in self.slots if other['state'] in (1, 2) and other['unit'] == slot['unit']]
        if len(same) >= self.cfg[slot['unit']]:
            return False
        return slot['op'] != 12 or all(other['state'] == 3 for other in front if other['op'] == 13)

    def registers(self, slot):
        op, d, a, b, _ = parts(slot['word'])
        if op in (11, 17):
            return []
        if op in (10, 12, 18):
            return [a]
        return [a, b] if op <= 9 else [a, d]

    def setter(self, k, which):
        for slot in reversed(self.slots[:k]):
            if sets_register(slot['op']) and slot['d'] == which and which:
                return slot
        return None

    def is_there(self, k, which):
        slot = self.setter(k, which)
        return slot is None or slot['state'] == 3

    def value(self, k, which):
        slot = self.setter(k, which)
        if slot is None:
            return self.regs[which]
        return 0 if slot['stop'] else slot['value']

    def loaded(self, k, cell):
        for slot in reversed(self.slots[:k]):
            if slot['op'] == 13 and not slot['stop'] and slot['cell'] == cell:
                return slot['value']
        return self.cells[cell]

    def fetch(self):
        for _ in range(self.cfg[0]):
            if len(self.slots) >= self.cfg[3]:
                return
            if any(slot['op'] == 18 or slot['sure'] for slot in self.slots):
                return
            self.fetch_one()

    def fetch_one(self):
        place = self.place
        word = self.prog[place] if place < len(self.prog) else 0
        op, d, _, _, imm = parts(word)
        sure = 5 if place >= len(self.prog) else 1 if op == 0 else 4 if op > 18 else 0
        after = (place + 1) % TOP
        jump = (place + 1 + imm) % TOP
        guess = after
        if op == 17 or op in (14, 15, 16) and self.counters and self.counters[place % len(self.counters)] in (2, 3):
            guess = jump
        if op == 18:
            guess = None
        self.slots.append({
            'place': place, 'word': word, 'op': op, 'd': d, 'unit': {8: 5, 9: 6, 12: 7, 13: 7}.get(op, 4),
            'sure': sure, 'stop': sure, 'state': 3 if sure else 0, 'left': 0, 'value': 0, 'cell': None,
            'guess': guess, 'next': after,
        })
        self.place = guess
