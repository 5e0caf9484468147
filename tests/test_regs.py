"""regs: what each instruction does to the registers, whatever the cfg."""

import unittest

from tests.support import MOST, ONE, REGS, STOP, TOP, ask, begin, final, imm_word, put, run, word

BIG = TOP - 1
NEGATIVE = 0x80000000


def after(prog, cells=()):
    """The registers at the stop; whatever the cfg, they're the same."""
    first = final(prog, ONE, cells)
    assert first == final(prog, MOST, cells) == final(prog, [2, 3, 1, 5, 2, 1, 1, 2, 3], cells)
    return first[1]


class Sixteen(unittest.TestCase):
    def test_all_are_told_in_order(self):
        prog = [put(which, which + 100) for which in range(16)] + [STOP]
        self.assertEqual(ask(begin(prog), run(100), REGS)[-1], [0, 0] + [which + 100 for which in range(1, 16)])

    def test_told_again_and_again(self):
        rows = ask(begin([put(1, 5)]), REGS, run(100), REGS, REGS)
        after_run = [0, 0, 5] + [0] * 14
        self.assertEqual(rows, [[0], [0] * 17, [5], after_run, after_run])

    def test_a_word_s_own_register(self):
        for which in range(1, 16):
            regs = after([put(which, 9), imm_word(10, 16 - which, which, 1), STOP])
            self.assertEqual(regs[16 - which], 10)


class TwoValues(unittest.TestCase):
    def check(self, op, first, second, expected):
        prog = [imm_word(12, 1, 0, 0), imm_word(12, 2, 0, 1), word(op, 3, 1, 2), STOP]
        regs = after(prog, [first, second])
        self.assertEqual(regs[:4], [0, first, second, expected], (op, first, second))

    def test_1_sum(self):
        self.check(1, 3, 4, 7)
        self.check(1, BIG, 1, 0)
        self.check(1, BIG, BIG, BIG - 1)

    def test_2_less(self):
        self.check(2, 9, 4, 5)
        self.check(2, 0, 1, BIG)
        self.check(2, 4, 9, TOP - 5)

    def test_3_4_5_bits(self):
        self.check(3, 0xFF00FF00, 0x0FF00FF0, 0x0F000F00)
        self.check(4, 0xFF00FF00, 0x0FF00FF0, 0xFFF0FFF0)
        self.check(5, 0xFF00FF00, 0x0FF00FF0, 0xF0F0F0F0)

    def test_6_left(self):
        self.check(6, 3, 4, 48)
        self.check(6, 3, 31, NEGATIVE)
        self.check(6, 3, 32, 3)
        self.check(6, 3, 33, 6)
        self.check(6, 3, BIG, NEGATIVE)
        self.check(6, BIG, 0, BIG)

    def test_7_right_without_a_sign(self):
        self.check(7, 48, 4, 3)
        self.check(7, NEGATIVE, 31, 1)
        self.check(7, BIG, 4, 0x0FFFFFFF)
        self.check(7, BIG, 32, BIG)
        self.check(7, BIG, 33, 0x7FFFFFFF)

    def test_8_times(self):
        self.check(8, 6, 7, 42)
        self.check(8, 0x10000, 0x10000, 0)
        self.check(8, BIG, BIG, 1)
        self.check(8, BIG, 2, BIG - 1)

    def test_9_by_without_signs(self):
        self.check(9, 42, 5, 8)
        self.check(9, 4, 5, 0)
        self.check(9, BIG, 2, 0x7FFFFFFF)
        self.check(9, 7, BIG, 0)
        self.check(9, 0, 3, 0)

    def test_9_by_0(self):
        prog = [put(1, 8), put(3, 6), word(9, 3, 1, 2), put(4, 1)]
        for cfg in (ONE, MOST):
            self.assertEqual(final(prog, cfg), (2, [0, 8, 0, 6] + [0] * 12))

    def test_d_may_be_a_or_b(self):
        self.assertEqual(after([put(1, 5), put(2, 3), word(2, 1, 1, 2), word(2, 2, 1, 2), STOP])[1:3], [2, TOP - 1])


class OneValue(unittest.TestCase):
    def test_10_sum_with_a_sign(self):
        for imm in (0, 1, 32767, -1, -32768):
            self.assertEqual(after([put(1, 100), imm_word(10, 2, 1, imm), STOP])[2], (100 + imm) % TOP)
            self.assertEqual(after([imm_word(10, 2, 0, imm), STOP])[2], imm % TOP)

    def test_11_high_half(self):
        for imm, expected in ((0, 0), (1, 0x10000), (0x7FFF, 0x7FFF0000), (0x8000, NEGATIVE), (0xFFFF, 0xFFFF0000)):
            self.assertEqual(after([put(2, 77), imm_word(11, 2, 0, imm), STOP])[2], expected)
            self.assertEqual(after([put(2, 77), imm_word(11, 2, 2, imm), STOP])[2], expected)


class Cells(unittest.TestCase):
    def test_12_from_a_cell(self):
        cells = [k + 1000 for k in range(1024)]
        for base, imm in ((0, 0), (0, 1023), (20, 3), (20, -20), (1023, 0), (-5, 6), (32767, -32000)):
            prog = [put(1, base), imm_word(12, 2, 1, imm), STOP]
            self.assertEqual(after(prog, cells)[2], base + imm + 1000, (base, imm))

    def test_13_then_12(self):
        for base, imm in ((0, 0), (0, 1023), (20, 3), (20, -20), (-5, 6)):
            prog = [put(1, base), put(2, 77), imm_word(13, 2, 1, imm), imm_word(12, 3, 0, base + imm), STOP]
            self.assertEqual(after(prog, [1] * 1024)[3], 77, (base, imm))

    def test_13_sets_that_cell_alone(self):
        prog = [put(1, 9), imm_word(13, 1, 0, 5)] + [imm_word(12, k, 0, k + 2) for k in range(2, 6)] + [STOP]
        self.assertEqual(after(prog, [7] * 8)[1:6], [9, 7, 9, 7, 7])

    def test_13_sets_no_register(self):
        self.assertEqual(after([put(1, 9), imm_word(13, 1, 0, 5), STOP]), [0, 9] + [0] * 14)

    def test_a_cell_stays_after_it_left(self):
        prog = [put(1, 9), imm_word(13, 1, 0, 5), *[put(2, k) for k in range(70)], imm_word(12, 3, 0, 5), STOP]
        self.assertEqual(after(prog)[3], 9)

    def test_12_that_stops_sets_nothing(self):
        prog = [put(1, 8), imm_word(12, 1, 0, -1), put(2, 1)]
        for cfg in (ONE, MOST):
            self.assertEqual(final(prog, cfg, [4] * 1024), (3, [0, 8] + [0] * 14))


class Jumps(unittest.TestCase):
    def jumps(self, op, first, second):
        """Whether it jumps, with first in a and second in d."""
        prog = [imm_word(12, 1, 0, 0), imm_word(12, 2, 0, 1), imm_word(op, 2, 1, 2), put(3, 1), STOP, put(3, 2), STOP]
        return after(prog, [first, second])[3] == 2

    def test_14_15_the_same(self):
        for first, second in ((0, 0), (5, 5), (BIG, BIG), (0, 1), (BIG, 0), (NEGATIVE, 0)):
            self.assertEqual(self.jumps(14, first, second), first == second)
            self.assertEqual(self.jumps(15, first, second), first != second)

    def test_16_less_with_signs(self):
        rising = [NEGATIVE, NEGATIVE + 1, BIG, 0, 1, 0x7FFFFFFF]
        for k, first in enumerate(rising):
            for j, second in enumerate(rising):
                self.assertEqual(self.jumps(16, first, second), k < j, (first, second))

    def test_they_set_no_register(self):
        for op in (14, 15, 16):
            self.assertEqual(after([put(1, 5), put(2, 6), imm_word(op, 2, 1, 1), STOP, STOP])[:4], [0, 5, 6, 0])

    def test_backwards(self):
        prog = [put(1, 5), imm_word(10, 2, 2, 3), imm_word(10, 1, 1, -1), imm_word(15, 0, 1, -3), STOP]
        self.assertEqual(after(prog)[1:3], [0, 15])
        prog = [put(1, -5), imm_word(10, 2, 2, 3), imm_word(10, 1, 1, 1), imm_word(16, 0, 1, -3), STOP]
        self.assertEqual(after(prog)[1:3], [0, 15])

    def test_17_keeps_the_next_place(self):
        prog = [put(2, 1), imm_word(17, 1, 0, 1), put(2, 7), STOP]
        self.assertEqual(after(prog)[1:3], [2, 1])
        # The a of its word counts for nothing.
        self.assertEqual(after([put(2, 1), imm_word(17, 1, 2, 1), put(2, 7), STOP])[1:3], [2, 1])

    def test_17_and_18_there_and_back(self):
        prog = [imm_word(17, 1, 0, 2), put(2, 5), STOP, put(3, 6), word(18, 0, 1), put(2, 7), STOP]
        self.assertEqual(after(prog)[1:4], [1, 5, 6])

    def test_18_sets_no_register(self):
        self.assertEqual(after([put(1, 3), put(2, 8), word(18, 2, 1, 1), STOP])[:4], [0, 3, 8, 0])

    def test_places_behind_the_program(self):
        far = [imm_word(11, 1, 0, 0xFFFF), word(18, 0, 1), put(2, 1)]
        back = [imm_word(17, 1, 0, -2), put(2, 1)]
        taken = [imm_word(14, 0, 0, -2), put(2, 1)]
        for prog in (far, back, taken, [imm_word(17, 1, 0, 500), put(2, 1)]):
            for cfg in (ONE, MOST):
                stop, regs = final(prog, cfg)
                self.assertEqual((stop, regs[2]), (5, 0), prog)


class RegisterZero(unittest.TestCase):
    def test_stays_0(self):
        setting = [word(op, 0, 1, 1) for op in range(1, 10)]
        setting += [imm_word(10, 0, 1, 3), imm_word(11, 0, 0, 3), imm_word(12, 0, 0, 0), imm_word(17, 0, 0, 0)]
        for instruction in setting:
            prog = [put(1, 5), instruction, imm_word(10, 2, 0, 7), word(1, 3, 0, 0), STOP]
            self.assertEqual(after(prog, [9])[:4], [0, 5, 7, 0], hex(instruction))

    def test_can_be_stored(self):
        prog = [put(0, 5), imm_word(13, 0, 0, 3), imm_word(12, 1, 0, 3), STOP]
        self.assertEqual(after(prog, [9] * 5)[1], 0)


if __name__ == '__main__':
    unittest.main()
