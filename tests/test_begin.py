"""begin: the nine numbers of cfg, the program, the cells."""

import unittest

from outoforder.processor import answers
from tests.support import MOST, ONE, REGS, STOP, ask, begin, changed, final, imm_word, put, run

RANGES = [(1, 4), (1, 4), (1, 4), (1, 64), (1, 4), (1, 4), (1, 4), (1, 4), (0, 256)]
LEAST = -2147483648
GREATEST = 2147483647


class Cfg(unittest.TestCase):
    def test_as_told(self):
        for cfg in (ONE, MOST, [2, 3, 1, 17, 4, 3, 2, 1, 100]):
            self.assertEqual(ask(begin([STOP], cfg)), [[0]], cfg)

    def test_edges_are_taken(self):
        for which, bounds in enumerate(RANGES):
            for number in bounds:
                for cfg in (ONE, MOST):
                    told = changed(cfg, {which: number})
                    self.assertEqual(answers(begin([STOP], told)), [1, 0], told)

    def test_below_and_above_is_refused(self):
        for which, (low, high) in enumerate(RANGES):
            for number in (low - 1, high + 1, LEAST, GREATEST):
                for cfg in (ONE, MOST):
                    told = changed(cfg, {which: number})
                    self.assertEqual(answers(begin([STOP], told)), [1, -3], told)

    def test_refused_whatever_else_is_handed_in(self):
        self.assertEqual(answers(begin([], [0] * 9, [1, 2, 3])), [1, -3])
        self.assertEqual(answers(begin([STOP] * 1024, [LEAST] * 9, [1] * 1024)), [1, -3])


class Program(unittest.TestCase):
    def test_empty(self):
        for cfg in (ONE, MOST):
            self.assertEqual(ask(begin([], cfg), run(1), run(1), REGS), [[0], [0], [5], [0] * 17])

    def test_1024_words(self):
        prog = [imm_word(10, 1, 1, 1)] * 1024
        for cfg in (ONE, MOST):
            stop, regs = final(prog, cfg)
            self.assertEqual((stop, regs[1]), (5, 1024))

    def test_nothing_is_fetched_or_set_at_first(self):
        self.assertEqual(ask(begin([put(1, 7)]), REGS, run(0), REGS), [[0], [0] * 17, [0], [0] * 17])


class Cells(unittest.TestCase):
    def loaded(self, cells, cell):
        stop, regs = final([imm_word(12, 1, 0, cell), STOP], MOST, cells)
        self.assertEqual(stop, 1)
        return regs[1]

    def test_first_are_handed_in_and_others_0(self):
        for cells in ([], [8], [8, 9, 2 ** 32 - 1], [5] * 1023):
            for cell in (0, 1, 2, 3, 1022, 1023):
                expected = cells[cell] if cell < len(cells) else 0
                self.assertEqual(self.loaded(cells, cell), expected, (len(cells), cell))

    def test_all_1024(self):
        cells = [3 * k + 1 for k in range(1024)]
        for cell in (0, 1, 500, 1023):
            self.assertEqual(self.loaded(cells, cell), 3 * cell + 1)


if __name__ == '__main__':
    unittest.main()
