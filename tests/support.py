"""What the tests share: words, calls, and looks at a run."""

from outoforder.processor import answers

ONE = [1, 1, 1, 1, 1, 1, 1, 1, 0]
MOST = [4, 4, 4, 64, 4, 4, 4, 4, 256]
TOP = 2 ** 32

FETCHED, LEAVE, PASSED_ON, SLOTS, OTHERS, UNITS_8, UNITS_9, UNITS_12, COUNTERS = range(9)

REGS = [2]
TOLD = [4]


def word(op, d=0, a=0, b=0):
    return op << 24 | d << 20 | a << 16 | b << 12


def imm_word(op, d, a, imm):
    return op << 24 | d << 20 | a << 16 | imm % 65536


def put(d, number):
    """d becomes a number from -32768 to 32767."""
    return imm_word(10, d, 0, number)


STOP = word(0)


def changed(cfg, changes):
    copy = list(cfg)
    for which, number in changes.items():
        copy[which] = number
    return copy


def begin(prog, cfg=MOST, cells=()):
    return [0, len(prog), *prog, len(cells), *cells, len(cfg), *cfg]


def run(cycles):
    return [1, cycles]


def cells_of(a, n):
    return [3, a, n]


def slot(k):
    return [5, k]


def split(numbers):
    """The answers, a list for each call."""
    rows = []
    at = 0
    while at < len(numbers):
        length = numbers[at]
        rows.append(numbers[at + 1:at + 1 + length])
        at += 1 + length
    return rows


def ask(*calls):
    """The answers to calls, a list for each."""
    return split(answers([number for call in calls for number in call]))


def final(prog, cfg=MOST, cells=(), cycles=1000000):
    """How it has stopped, and the sixteen registers."""
    rows = ask(begin(prog, cfg, cells), run(cycles), REGS)
    assert rows[0] == [0] and rows[2][0] == 0
    return rows[1][0], rows[2][1:]


def by_cycle(prog, cfg, cycles, cells=()):
    """How it has stopped and the registers, for each of so many cycles (149 at most)."""
    calls = [begin(prog, cfg, cells)]
    for _ in range(cycles):
        calls.append(run(1))
        calls.append(REGS)
    rows = ask(*calls)[1:]
    return [(rows[k][0], rows[k + 1][1:]) for k in range(0, len(rows), 2)]


def set_at(prog, cfg, which, cells=(), cycles=149):
    """The cycles in which a register changes, each with what it becomes."""
    seen = []
    last = 0
    for number, (_, regs) in enumerate(by_cycle(prog, cfg, cycles, cells), start=1):
        if regs[which] != last:
            seen.append((number, regs[which]))
        last = regs[which]
    return seen


def stops_at(prog, cfg, cells=(), most=149):
    """The cycle in which it stops, and how."""
    rows = ask(begin(prog, cfg, cells), *[run(1) for _ in range(most)])[1:]
    for number, row in enumerate(rows, start=1):
        if row[0] != 0:
            return number, row[0]
    return None


def after_cycles(prog, cfg, cycles, calls, cells=()):
    """The answers to calls behind so many cycles."""
    return ask(begin(prog, cfg, cells), run(cycles), *calls)[2:]


def told_at(prog, cfg, cycles, cells=()):
    return after_cycles(prog, cfg, cycles, [TOLD], cells)[0]


def told_by_cycle(prog, cfg, cycles, cells=()):
    """What is told before the first cycle and behind each of so many (149 at most)."""
    calls = [begin(prog, cfg, cells), TOLD]
    for _ in range(cycles):
        calls += [run(1), TOLD]
    return ask(*calls)[1::2]


def slots_at(prog, cfg, cycles, cells=()):
    """All slots that there are, each without the 0 in front: its place, word, 0 to 3, cycles left, value."""
    rows = after_cycles(prog, cfg, cycles, [slot(k) for k in range(64)], cells)
    there = [row[1:] for row in rows if row != [-3]]
    assert rows == [[0, *row] for row in there] + [[-3]] * (64 - len(there))
    return there
