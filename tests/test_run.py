"""run: the cycles that are asked for, and the ways of stopping."""

import unittest

from tests.support import MOST, ONE, REGS, STOP, ask, begin, final, imm_word, put, run, stops_at, word

FOREVER = [imm_word(17, 0, 0, -1)]


class Cycles(unittest.TestCase):
    def test_refused(self):
        for cycles in (-1, 1000001, -2147483648, 2147483647):
            self.assertEqual(ask(begin([STOP]), run(cycles)), [[0], [-2]], cycles)

    def test_refusal_leaves_all_as_it_was(self):
        prog = [put(1, 7), STOP]
        rows = ask(begin(prog, ONE), run(3), run(-1), REGS, run(1000001), REGS, run(1), REGS, run(0))
        before = [0] * 17
        after = [0, 0, 7] + [0] * 14
        self.assertEqual(rows, [[0], [0], [-2], before, [-2], before, [0], after, [0]])

    def test_refused_behind_a_stop_too(self):
        self.assertEqual(ask(begin([STOP]), run(9), run(-1), run(1000001), run(9))[1:], [[1], [-2], [-2], [1]])

    def test_edges_are_taken(self):
        self.assertEqual(ask(begin([STOP]), run(0), run(1000000)), [[0], [0], [1]])

    def test_no_cycles_do_nothing(self):
        rows = ask(begin([STOP], ONE), run(0), run(1), run(0), run(0), run(1), run(0))
        self.assertEqual(rows, [[0], [0], [0], [0], [0], [1], [1]])

    def test_cycles_add_up(self):
        prog = [imm_word(10, 1, 1, 1), imm_word(17, 0, 0, -2)]
        for cfg in (ONE, MOST):
            at_once = ask(begin(prog, cfg), run(60), REGS)[-1]
            for steps in ([1] * 60, [0, 59, 0, 1], [20, 25, 15]):
                rows = ask(begin(prog, cfg), *[run(step) for step in steps], REGS)
                self.assertEqual(rows[-1], at_once)
                self.assertEqual(rows[1:-1], [[0]] * len(steps))

    def test_a_million(self):
        prog = [imm_word(10, 1, 1, 1), imm_word(17, 0, 0, -2)]
        # One at a time, each takes 3 cycles; the first leaves in the fourth.
        rows = ask(begin(prog, ONE), run(1000000), REGS)
        self.assertEqual((rows[1], rows[2][2]), ([0], 166667))


class Stops(unittest.TestCase):
    def check(self, prog, stop, cells=()):
        for cfg in (ONE, MOST):
            self.assertEqual(final(prog, cfg, cells)[0], stop, (prog, cfg))

    def test_1_by_the_word(self):
        self.check([STOP], 1)
        self.check([0x00FFFFFF], 1)
        self.check([put(1, 1), STOP, word(19)], 1)

    def test_2_by_a_division(self):
        self.check([put(1, 1), word(9, 2, 1, 0)], 2)
        self.check([word(9, 0, 0, 3), STOP], 2)

    def test_3_by_a_cell(self):
        for op in (12, 13):
            self.check([imm_word(op, 1, 0, 1024)], 3)
            self.check([imm_word(op, 1, 0, -1)], 3)
            self.check([put(2, 1), imm_word(op, 1, 2, 1023)], 3)
            self.check([imm_word(11, 2, 0, 0x8000), imm_word(op, 1, 2, 0)], 3)
            self.check([imm_word(op, 1, 0, 1023)], 5)
            self.check([imm_word(op, 1, 0, 0)], 5)
            # By 2 ^ 32, -1 and 1 together are cell 0.
            self.check([put(2, -1), imm_word(op, 1, 2, 1)], 5)

    def test_4_by_another_op(self):
        for op in (19, 20, 100, 255):
            self.check([word(op)], 4)
            self.check([word(op) + 0xFFFFFF], 4)

    def test_18_is_the_last_op(self):
        # It goes on at register 0, which is its own place.
        self.assertEqual(final([word(18), STOP], cycles=1000)[0], 0)

    def test_5_behind_the_program(self):
        self.check([], 5)
        self.check([put(1, 1)], 5)
        self.check([imm_word(17, 1, 0, 0)], 5)
        self.check([imm_word(17, 1, 0, 32767)], 5)
        self.check([imm_word(17, 1, 0, -2), STOP], 5)
        self.check([imm_word(14, 0, 0, -32768), STOP], 5)
        self.check([put(1, 3), word(18, 0, 1), STOP], 5)
        self.check([put(1, 2), word(18, 0, 1), STOP], 1)
        self.check([put(1, -1), word(18, 0, 1), STOP], 5)

    def test_the_first_one_counts(self):
        self.check([word(9, 1, 0, 0), STOP], 2)
        self.check([imm_word(12, 1, 0, -1), word(9, 1, 0, 0)], 3)
        # The second is done long before the first.
        self.check([word(9, 1, 0, 0), imm_word(13, 1, 0, -1), word(77)], 2)

    def test_not_stopped(self):
        for cfg in (ONE, MOST):
            self.assertEqual(final(FOREVER, cfg, cycles=2000)[0], 0)

    def test_what_stops_does_nothing_else(self):
        load = [put(1, 7), imm_word(12, 1, 0, -1)]
        divide = [put(1, 7), word(9, 1, 1, 0)]
        for prog in (load, divide):
            for cfg in (ONE, MOST):
                self.assertEqual(final(prog, cfg)[1][1], 7)

    def test_what_is_behind_does_nothing(self):
        prog = [put(1, 7), word(9, 2, 1, 0), put(1, 8), put(3, 9)]
        for cfg in (ONE, MOST):
            self.assertEqual(final(prog, cfg)[1], [0, 7] + [0] * 14)


class Stopped(unittest.TestCase):
    def test_stays_so(self):
        zero = [word(9, 1, 0, 0), put(1, 5)]
        for prog, stop in (([STOP, put(1, 5)], 1), (zero, 2), ([imm_word(13, 0, 0, -1)], 3), ([word(50)], 4), ([], 5)):
            for cfg in (ONE, MOST):
                rows = ask(begin(prog, cfg), run(1000), REGS, run(0), run(1), run(1000000), REGS)
                self.assertEqual(rows[1:], [[stop], [0] * 17, [stop], [stop], [stop], [0] * 17])

    def test_fewer_cycles_than_asked(self):
        # It's fetched in the first cycle, done at once, and is the first in the second.
        for cfg in (ONE, MOST):
            self.assertEqual(stops_at([STOP], cfg), (2, 1))
            self.assertEqual(stops_at([word(200)], cfg), (2, 4))
            self.assertEqual(stops_at([], cfg), (2, 5))


if __name__ == '__main__':
    unittest.main()
