"""Programs of all sorts, cycle by cycle, against the document followed word by word."""

import random
import unittest

from tests.literal import Literal, one_after_another
from tests.support import MOST, ONE, STOP, by_cycle, final, imm_word, put, word

JUMPS = (14, 15, 16, 17)


def some_word(source, length, at):
    """A word that mostly stays within the program, within a few cells and a few registers."""
    op = source.choice((1, 2, 3, 4, 5, 6, 7, 8, 8, 9, 9, 10, 10, 11, 12, 12, 12, 13, 13, 13, 14, 15, 16, 16, 17, 18))
    d, a, b = (source.choice((0, 1, 2, 3, 4, source.randrange(16))) for _ in range(3))
    if op in JUMPS:
        return imm_word(op, d, a, source.randrange(max(-6, -at - 1), min(6, length - at) + 1))
    if op in (12, 13):
        return imm_word(op, d, source.choice((0, 0, 0, a)), source.randrange(4))
    if op == 10:
        return imm_word(op, d, a, source.randrange(-2, 5))
    if op == 18 and source.randrange(2):
        return STOP if source.randrange(4) == 0 else word(source.randrange(256))
    return word(op, d, a, b)


def some_program(source):
    length = source.randrange(1, 30)
    start = [put(which, source.randrange(1, 9)) for which in range(1, 5)]
    return start + [some_word(source, length, at) for at in range(length)]


def some_cfg(source):
    kind = source.randrange(4)
    if kind == 0:
        return source.choice((ONE, MOST))
    slots = source.choice((1, 2, 3, 5, 8, 16, 64))
    units = [source.randrange(1, 5 if kind == 1 else 3) for _ in range(4)]
    counters = source.choice((0, 1, 2, 3, 7, 256))
    return [source.randrange(1, 5), source.randrange(1, 5), source.randrange(1, 5), slots, *units, counters]


class AgainstLiteral(unittest.TestCase):
    def test_every_cycle(self):
        for seed in range(600):
            source = random.Random(seed)
            prog, cfg = some_program(source), some_cfg(source)
            cells = [source.randrange(10) for _ in range(source.randrange(6))]
            literal = Literal(prog, cells, cfg)
            for number, (stop, regs) in enumerate(by_cycle(prog, cfg, 120, cells), start=1):
                literal.cycle()
                self.assertEqual((stop, regs), (literal.stopped, literal.regs), (seed, number, prog, cfg))

    def test_nothing_is_seen_but_the_time(self):
        stops = set()
        for seed in range(1000, 1300):
            source = random.Random(seed)
            prog = some_program(source)
            cells = [source.randrange(10) for _ in range(4)]
            stop, regs, _ = one_after_another(prog, cells, 2000)
            if stop == 0:
                continue
            stops.add(stop)
            for cfg in (ONE, MOST, some_cfg(source)):
                self.assertEqual(final(prog, cfg, cells), (stop, regs), (seed, prog, cfg))
        self.assertEqual(stops, {1, 2, 3, 4, 5})


if __name__ == '__main__':
    unittest.main()
