"""Programs of all sorts, cycle by cycle, against the document followed word by word."""

import random
import unittest

from outoforder.processor import answers
from tests.literal import Literal, one_after_another
from tests.support import MOST, ONE, REGS, STOP, TOLD, ask, begin, by_cycle, cells_of, imm_word, put, run, slot, split
from tests.support import word

JUMPS = (14, 15, 16, 17)


def some_word(source, length, at):
    """A word that mostly stays within the program, within a few cells and a few registers."""
    op = source.choice((1, 2, 3, 4, 5, 6, 7, 8, 8, 9, 9, 10, 10, 11, 12, 12, 12, 13, 13, 13, 14, 15, 16, 16, 17, 18))
    d, a, b = (source.choice((0, 1, 2, 3, 4, source.randrange(16))) for _ in range(3))
    if op in JUMPS:
        return imm_word(op, d, a, source.randrange(max(-6, -at - 1), min(6, length - at) + 1))
    if op in (12, 13):
        return imm_word(op, d, source.choice((0, 0, 0, a)), source.randrange(4))
    if op == 10:
        return imm_word(op, d, a, source.randrange(-2, 5))
    if op == 18 and source.randrange(2):
        return STOP if source.randrange(4) == 0 else word(source.randrange(256))
    return word(op, d, a, b)


def some_program(source):
    length = source.randrange(1, 30)
    start = [put(which, source.randrange(1, 9)) for which in range(1, 5)]
    return start + [some_word(source, length, at) for at in range(length)]


def some_cfg(source):
    kind = source.randrange(4)
    if kind == 0:
        return source.choice((ONE, MOST))
    slots = source.choice((1, 2, 3, 5, 8, 16, 64))
    units = [source.randrange(1, 5 if kind == 1 else 3) for _ in range(4)]
    counters = source.choice((0, 1, 2, 3, 7, 256))
    return [source.randrange(1, 5), source.randrange(1, 5), source.randrange(1, 5), slots, *units, counters]


def looks(literal):
    """Calls that look at all there is, each with what the slow model answers."""
    calls = [TOLD, REGS, cells_of(0, 1024)] + [slot(k) for k in range(len(literal.slots) + 1)]
    return [(call, literal.answer(call)) for call in calls]


def some_call(source):
    """Any but begin; now and then one that's refused."""
    kind = source.randrange(8)
    if kind <= 1:
        return run(source.choice((-1, 0, 1, 1, 1, 2, 2, 3, 5, 1000001)))
    if kind == 2:
        return REGS
    if kind == 3:
        return cells_of(source.choice((-1, 0, 0, 1, 2, 1020, 1024, 1025)), source.choice((-1, 0, 1, 4, 5, 1024, 1025)))
    if kind == 4:
        return TOLD
    return slot(source.choice((-1, 0, 0, 0, 1, 1, 2, 3, 4, 5, 6, 7, 8, 63, 64)))


class AgainstLiteral(unittest.TestCase):
    def check_looks(self, seed, prog, cfg, cells, cycles):
        """Every cycle, in as few lists of calls as may be, each of 300 at most."""
        literal = Literal(prog, cells, cfg)
        asked = []
        for number in range(cycles + 1):
            rows = looks(literal)
            if not asked or len(asked) + 1 + len(rows) > 300:
                self.check_list(asked, seed)
                asked = [(begin(prog, cfg, cells), [0]), (run(number), [literal.stopped]), *rows]
            else:
                asked += [(run(1), [literal.stopped]), *rows]
            literal.cycle()
        self.check_list(asked, seed)

    def check_list(self, asked, seed):
        if asked:
            self.assertEqual(ask(*[call for call, _ in asked]), [row for _, row in asked], seed)

    def test_all_looks_at_every_cycle(self):
        for seed in range(2000, 2400):
            source = random.Random(seed)
            prog, cfg = some_program(source), some_cfg(source)
            cells = [source.randrange(10) for _ in range(source.randrange(6))]
            self.check_looks(seed, prog, cfg, cells, 60)

    def test_every_cycle(self):
        for seed in range(600):
            source = random.Random(seed)
            prog, cfg = some_program(source), some_cfg(source)
            cells = [source.randrange(10) for _ in range(source.randrange(6))]
            literal = Literal(prog, cells, cfg)
            for number, (stop, regs) in enumerate(by_cycle(prog, cfg, 120, cells), start=1):
                literal.cycle()
                self.assertEqual((stop, regs), (literal.stopped, literal.regs), (seed, number, prog, cfg))

    def test_all_calls_mixed(self):
        for seed in range(3000, 3150):
            source = random.Random(seed)
            prog, cfg = some_program(source), some_cfg(source)
            cells = [source.randrange(10) for _ in range(source.randrange(6))]
            literal = Literal(prog, cells, cfg)
            calls = [some_call(source) for _ in range(299)]
            expected = [[0]] + [literal.answer(call) for call in calls]
            listed = begin(prog, cfg, cells) + [number for call in calls for number in call]
            handed = list(listed)
            first = answers(handed)
            self.assertEqual(split(first), expected, seed)
            self.assertEqual(answers(handed), first)
            self.assertEqual(handed, listed)

    def test_nothing_is_seen_but_the_time(self):
        stops = set()
        for seed in range(1000, 1300):
            source = random.Random(seed)
            prog = some_program(source)
            cells = [source.randrange(10) for _ in range(4)]
            stop, regs, made, left, place = one_after_another(prog, cells, 2000)
            if stop == 0:
                continue
            stops.add(stop)
            for cfg in (ONE, MOST, some_cfg(source)):
                rows = ask(begin(prog, cfg, cells), run(1000000), REGS, cells_of(0, 1024), TOLD)
                self.assertEqual(rows[1:4], [[stop], [0, *regs], [1024, *made]], (seed, prog, cfg))
                told = rows[4]
                self.assertEqual((told[0], told[2], told[6]), (stop, left, place), (seed, prog, cfg))
        self.assertEqual(stops, {1, 2, 3, 4, 5})


if __name__ == '__main__':
    unittest.main()
