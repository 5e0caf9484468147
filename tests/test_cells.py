"""cells: how many may be told from where, and what those that have left made of them."""

import unittest

from tests.support import LEAVE, MOST, ONE, REGS, STOP, TOLD, after_cycles, ask, begin, cells_of, changed, imm_word
from tests.support import put, run, slot, word

LEAST = -2147483648
GREATEST = 2147483647


def told_cells(a, n, cells=()):
    return ask(begin([], ONE, cells), cells_of(a, n))[1]


def cell_by_cycle(prog, cfg, cell, cycles, cells=()):
    """What the cell holds before the first cycle and behind each of so many."""
    calls = [begin(prog, cfg, cells), cells_of(cell, 1)]
    for _ in range(cycles):
        calls += [run(1), cells_of(cell, 1)]
    rows = ask(*calls)[1::2]
    assert all(row[0] == 1 and len(row) == 2 for row in rows)
    return [row[1] for row in rows]


class Range(unittest.TestCase):
    def test_a_is_refused(self):
        for a in (-1, 1025, LEAST, GREATEST):
            for n in (0, 1, 512, 1024):
                self.assertEqual(told_cells(a, n), [-2], (a, n))

    def test_n_is_refused(self):
        for n in (-1, 1025, LEAST, GREATEST):
            for a in (0, 1, 512, 1024):
                self.assertEqual(told_cells(a, n), [-2], (a, n))

    def test_both_are_refused(self):
        for a, n in ((-1, -1), (-1, 1025), (1025, -1), (1025, 1025), (LEAST, GREATEST), (GREATEST, LEAST)):
            self.assertEqual(told_cells(a, n), [-2], (a, n))

    def test_more_together_are_refused(self):
        for a, n in ((1024, 1), (1, 1024), (1023, 2), (2, 1023), (512, 513), (1024, 1024)):
            self.assertEqual(told_cells(a, n), [-2], (a, n))

    def test_edges_are_taken(self):
        cells = [k + 1 for k in range(1024)]
        self.assertEqual(told_cells(1024, 0, cells), [0])
        self.assertEqual(told_cells(0, 0, cells), [0])
        self.assertEqual(told_cells(500, 0, cells), [0])
        self.assertEqual(told_cells(0, 1024, cells), [1024, *cells])
        self.assertEqual(told_cells(1023, 1, cells), [1, 1024])
        self.assertEqual(told_cells(0, 1, cells), [1, 1])
        self.assertEqual(told_cells(512, 512, cells), [512, *cells[512:]])
        self.assertEqual(told_cells(1, 1023, cells), [1023, *cells[1:]])

    def test_refusal_leaves_all_as_it_was(self):
        prog = [put(1, 7), imm_word(13, 1, 0, 0), STOP]
        looks = [REGS, TOLD, slot(0), cells_of(0, 3)]
        plain = ask(begin(prog), run(3), *looks, run(2), *looks)
        mixed = ask(begin(prog), run(3), cells_of(-1, 1), cells_of(1024, 1), *looks, run(2), cells_of(0, 1025), *looks)
        self.assertEqual(mixed[2:4] + mixed[9:10], [[-2]] * 3)
        self.assertEqual(mixed[:2] + mixed[4:9] + mixed[10:], plain)


class AsHandedIn(unittest.TestCase):
    def test_first_are_handed_in_and_others_0(self):
        for cells in ([], [8], [8, 0, 2 ** 32 - 1], [5] * 1023, list(range(1024))):
            expected = cells + [0] * (1024 - len(cells))
            self.assertEqual(told_cells(0, 1024, cells), [1024, *expected])
            self.assertEqual(told_cells(1, 4, cells), [4, *expected[1:5]])

    def test_told_again_and_again(self):
        rows = ask(begin([], ONE, [4, 5, 6]), *[cells_of(1, 3)] * 3, run(9), cells_of(1, 3))
        self.assertEqual(rows, [[0], *[[3, 5, 6, 0]] * 3, [5], [3, 5, 6, 0]])


class Stored(unittest.TestCase):
    def test_once_it_has_left(self):
        prog = [put(1, 9), imm_word(13, 1, 0, 2), STOP]
        # One at a time: it's fetched in cycle 4, done in 6, and leaves in 7.
        self.assertEqual(cell_by_cycle(prog, ONE, 2, 9, [4] * 5), [4] * 7 + [9] * 3)
        # All at once: it's done in cycle 4, and leaves in 5.
        self.assertEqual(cell_by_cycle(prog, MOST, 2, 7, [4] * 5), [4] * 5 + [9] * 3)

    def test_not_while_it_waits_for_one_in_front_to_leave(self):
        # It's done in cycle 4, the division in 15: both leave in 16.
        prog = [put(1, 9), word(9, 2, 1, 1), imm_word(13, 1, 0, 2), STOP]
        self.assertEqual(cell_by_cycle(prog, MOST, 2, 18, [4] * 5), [4] * 16 + [9] * 3)

    def test_what_a_12_behind_it_gets_is_not_there_yet(self):
        # 12 begins in cycle 4 and has the 9, which stands in the cell from cycle 16 on.
        prog = [put(1, 9), word(9, 2, 1, 1), imm_word(13, 1, 0, 2), imm_word(12, 3, 0, 2), STOP]
        rows = after_cycles(prog, MOST, 10, [cells_of(2, 1), slot(2)], [4] * 5)
        self.assertEqual(rows, [[1, 4], [0, 3, imm_word(12, 3, 0, 2), 3, 0, 9]])

    def test_one_behind_another(self):
        prog = [put(1, 9), put(2, 8), imm_word(13, 1, 0, 2), imm_word(13, 2, 0, 2), STOP]
        # They leave in cycles 4, 5, 6, 7.
        self.assertEqual(cell_by_cycle(prog, changed(MOST, {LEAVE: 1}), 2, 8, [4] * 5), [4] * 6 + [9] + [8] * 2)
        # The first two leave in cycle 4, the others in 5.
        self.assertEqual(cell_by_cycle(prog, MOST, 2, 6, [4] * 5), [4] * 5 + [8] * 2)

    def test_that_cell_alone(self):
        for cell in (0, 1, 500, 1022, 1023):
            prog = [put(1, -1), imm_word(13, 1, 0, cell), STOP]
            expected = list(range(1024))
            expected[cell] = 2 ** 32 - 1
            self.assertEqual(after_cycles(prog, MOST, 9, [cells_of(0, 1024)], range(1024)), [[1024, *expected]])

    def test_by_a_and_imm_together(self):
        prog = [put(1, -5), put(2, 6), imm_word(13, 2, 1, 6), imm_word(13, 2, 2, -2), STOP]
        for cfg in (ONE, MOST):
            self.assertEqual(after_cycles(prog, cfg, 99, [cells_of(0, 6)]), [[6, 0, 6, 0, 0, 6, 0]])

    def test_other_words_set_none(self):
        prog = [put(1, 1), *[imm_word(op, 2, 1, 0) for op in (8, 10, 11, 12, 14, 15, 16, 17)], STOP]
        for cfg in (ONE, MOST):
            self.assertEqual(ask(begin(prog, cfg, [7] * 1024), run(99), cells_of(0, 1024))[1:], [[1], [1024, *[7] * 1024]])

    def test_register_0_is_put_there(self):
        prog = [put(0, 5), imm_word(13, 0, 0, 1), STOP]
        for cfg in (ONE, MOST):
            self.assertEqual(after_cycles(prog, cfg, 99, [cells_of(0, 3)], [7] * 3), [[3, 7, 0, 7]])


class NotStored(unittest.TestCase):
    def check(self, prog):
        for cfg in (ONE, MOST):
            self.assertEqual(after_cycles(prog, cfg, 99, [cells_of(0, 1024)], [7] * 1024), [[1024, *[7] * 1024]], cfg)

    def test_by_one_that_stops(self):
        for imm in (-1, 1024, 32767, -32768):
            self.check([put(1, 9), imm_word(13, 1, 0, imm), STOP])

    def test_behind_a_stop(self):
        for stop in (STOP, word(9, 2, 1, 0), imm_word(12, 2, 0, -1), imm_word(13, 2, 0, -1), word(40)):
            self.check([put(1, 9), stop, imm_word(13, 1, 0, 2)])

    def test_by_one_that_is_thrown_away(self):
        self.check([put(1, 9), imm_word(14, 0, 0, 1), imm_word(13, 1, 0, 2), STOP])
        # It's done long before the jump, which waits for the division.
        prog = [put(1, 9), word(9, 2, 1, 1), imm_word(15, 0, 2, 1), imm_word(13, 1, 0, 2), STOP]
        self.check(prog)
        self.assertEqual(cell_by_cycle(prog, MOST, 2, 30, [7] * 5), [7] * 31)


if __name__ == '__main__':
    unittest.main()
