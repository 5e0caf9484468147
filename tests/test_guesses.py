"""Where jumps are guessed to lead, and what is thrown away. The cycles are worked out by hand."""

import unittest

from tests.support import COUNTERS, MOST, ONE, STOP, UNITS_9, changed, final, imm_word, put, set_at, stops_at, word


class WrongGuesses(unittest.TestCase):
    def test_at_first_the_next_place_is_guessed(self):
        right = [imm_word(15, 0, 0, 1), put(1, 1), put(2, 2), STOP]
        wrong = [imm_word(14, 0, 0, 1), put(1, 1), put(2, 2), STOP]
        for counters in (0, 1, 5, 256):
            cfg = changed(MOST, {COUNTERS: counters})
            self.assertEqual(stops_at(right, cfg), (4, 1))
            self.assertEqual(stops_at(wrong, cfg), (7, 1))
            self.assertEqual(set_at(wrong, cfg, 1), [])
            self.assertEqual(set_at(wrong, cfg, 2), [(7, 2)])

    def test_17_is_never_wrong(self):
        prog = [imm_word(17, 1, 0, 1), put(2, 2), put(3, 3), STOP]
        for counters in (0, 1, 256):
            cfg = changed(MOST, {COUNTERS: counters})
            self.assertEqual(stops_at(prog, cfg), (4, 1))
            self.assertEqual(final(prog, cfg)[1][:4], [0, 1, 0, 3])

    def test_a_jump_to_the_next_place_is_never_wrong(self):
        for op in (14, 15, 16):
            self.assertEqual(stops_at([imm_word(op, 0, 0, 0), put(1, 1), STOP], MOST), (4, 1))

    def test_what_is_thrown_away_frees_its_unit(self):
        prog = [put(1, 1), imm_word(14, 0, 0, 1), word(9, 2, 1, 1), word(9, 3, 1, 1), STOP]
        cfg = changed(MOST, {UNITS_9: 1})
        self.assertEqual(set_at(prog, cfg, 3), [(18, 1)])
        self.assertEqual(stops_at(prog, cfg), (18, 1))
        self.assertEqual(set_at(prog, cfg, 2), [])

    def test_what_is_thrown_away_sets_nothing(self):
        prog = [put(1, 5), imm_word(14, 0, 0, 2), put(1, 6), imm_word(13, 1, 0, 3), word(1, 2, 1, 1)]
        prog += [imm_word(12, 3, 0, 3), STOP]
        for cfg in (ONE, MOST):
            self.assertEqual(final(prog, cfg, [9] * 4), (1, [0, 5, 10, 9] + [0] * 12))

    def test_what_is_thrown_away_does_not_stop(self):
        for wrong in (STOP, word(99), word(9, 1, 0, 0), imm_word(12, 1, 0, -1), imm_word(13, 1, 0, -1)):
            prog = [imm_word(12, 4, 0, 0), imm_word(14, 4, 4, 1), wrong, put(2, 3), STOP]
            for cfg in (ONE, MOST):
                self.assertEqual(final(prog, cfg), (1, [0, 0, 3] + [0] * 13))
        # Behind the program it's fetched, too, and thrown away.
        prog = [imm_word(17, 0, 0, 1), STOP, imm_word(14, 0, 0, -2)]
        for cfg in (ONE, MOST):
            self.assertEqual(final(prog, cfg)[0], 1)

    def test_none_leaves_behind_a_wrong_guess(self):
        # The second and third are done with the first; in cycle 4 they'd leave with it.
        prog = [imm_word(14, 0, 0, 2), put(1, 1), put(2, 2), STOP]
        self.assertEqual(set_at(prog, MOST, 1), [])
        self.assertEqual(set_at(prog, MOST, 2), [])
        self.assertEqual(stops_at(prog, MOST), (5, 1))


class Counters(unittest.TestCase):
    def turns(self, jumps, counters):
        """How many cycles each turn of a loop takes whose jump goes as told: 6, or 9 if it's guessed wrongly.

        A turn ends with 18, so that nothing of the next one is fetched before it leaves.
        """
        prog = [imm_word(12, 2, 1, 0), imm_word(10, 1, 1, 1), imm_word(15, 0, 2, 1), put(3, 1), word(18, 0, 0)]
        seen = set_at(prog, changed(MOST, {COUNTERS: counters}), 1, [*jumps, 0])
        cycles = [cycle for cycle, _ in seen][:len(jumps) + 1]
        self.assertEqual(cycles[0], 6)
        return [after - before for before, after in zip(cycles, cycles[1:])]

    JUMPS = [1, 1, 1, 1, 0, 0, 0, 0, 0, 1, 1, 1]

    def test_grow_to_3_and_fall_to_0(self):
        for counters in (1, 2, 3, 256):
            self.assertEqual(self.turns(self.JUMPS, counters), [9, 6, 6, 6, 9, 9, 6, 6, 6, 9, 9, 6])

    def test_one_of_another_sort_changes_nothing_yet(self):
        self.assertEqual(self.turns([1, 1, 1, 0, 1, 1, 0, 0, 1, 0, 1, 1], 1), [9, 6, 6, 9, 6, 6, 9, 9, 9, 9, 9, 6])

    def test_none(self):
        self.assertEqual(self.turns(self.JUMPS, 0), [9, 9, 9, 9, 6, 6, 6, 6, 6, 9, 9, 9])

    def test_by_the_place(self):
        prog = [imm_word(14, 0, 0, 1), put(1, 1), imm_word(14, 0, 0, 1), put(1, 2), STOP]
        for counters, cycle in ((0, 8), (1, 7), (2, 7), (3, 8), (4, 8), (256, 8)):
            self.assertEqual(stops_at(prog, changed(MOST, {COUNTERS: counters})), (cycle, 1), counters)

    def test_a_jump_to_the_next_place_lets_it_fall(self):
        skip = [imm_word(14, 0, 0, 1), put(2, 1)]
        prog = [put(1, 3), imm_word(14, 0, 0, 0), word(18, 0, 1), *skip, *skip, STOP]
        self.assertEqual(stops_at(prog, changed(MOST, {COUNTERS: 1})), (12, 1))

    def test_a_loop(self):
        for turns in (3, 10):
            prog = [put(1, turns), imm_word(10, 1, 1, -1), imm_word(15, 0, 1, -2), STOP]
            self.assertEqual(stops_at(prog, changed(MOST, {COUNTERS: 0})), (2 + 4 * turns, 1))
            self.assertEqual(stops_at(prog, changed(MOST, {COUNTERS: 1})), (9 + turns, 1))

    def test_17_and_18_count_nothing(self):
        # Were one of them counted, the jump behind 18 would be guessed rightly, and it would stop a cycle before.
        skip = [imm_word(14, 0, 0, 1), put(2, 1), STOP]
        cfg = changed(MOST, {COUNTERS: 1})
        self.assertEqual(stops_at([put(1, 2), word(18, 0, 1), *skip], cfg), (9, 1))
        self.assertEqual(stops_at([put(1, 3), word(18, 0, 1), STOP, *skip], cfg), (9, 1))
        self.assertEqual(stops_at([put(1, 4), imm_word(17, 0, 0, 1), STOP, word(18, 0, 1), *skip], cfg), (9, 1))


if __name__ == '__main__':
    unittest.main()
