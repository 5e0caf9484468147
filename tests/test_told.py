"""told: how it has stopped, cycles, left, thrown away, guessed wrongly, slots, the place that's next to leave.

The cycles here are worked out by hand, as in test_cycles.
"""

import unittest

from outoforder.machine import Machine
from outoforder.processor import told_answer
from tests.support import COUNTERS, FETCHED, LEAVE, MOST, ONE, REGS, SLOTS, STOP, TOLD, TOP, ask, begin, cells_of
from tests.support import changed, imm_word, put, run, slot, told_at, told_by_cycle, word

STOPPED, CYCLES, LEFT, THROWN, WRONG, HOW_MANY, PLACE = range(7)


def column(rows, which):
    return [row[which] for row in rows]


class Seven(unittest.TestCase):
    def test_before_any_cycle(self):
        for prog in ([], [STOP], [put(1, 1)] * 9):
            for cfg in (ONE, MOST):
                self.assertEqual(ask(begin(prog, cfg), TOLD, run(0), TOLD), [[0], [0] * 7, [0], [0] * 7])

    def test_one_at_a_time(self):
        self.assertEqual(told_by_cycle([put(1, 1), STOP], ONE, 7), [
            [0, 0, 0, 0, 0, 0, 0],
            [0, 1, 0, 0, 0, 1, 0],
            [0, 2, 0, 0, 0, 1, 0],
            [0, 3, 0, 0, 0, 1, 0],
            [0, 4, 1, 0, 0, 1, 1],
            [1, 5, 1, 0, 0, 1, 1],
            [1, 5, 1, 0, 0, 1, 1],
            [1, 5, 1, 0, 0, 1, 1],
        ])

    def test_all_at_once(self):
        self.assertEqual(told_by_cycle([put(1, 1), put(2, 2), STOP], MOST, 5), [
            [0, 0, 0, 0, 0, 0, 0],
            [0, 1, 0, 0, 0, 3, 0],
            [0, 2, 0, 0, 0, 3, 0],
            [0, 3, 0, 0, 0, 3, 0],
            [1, 4, 2, 0, 0, 1, 2],
            [1, 4, 2, 0, 0, 1, 2],
        ])

    def test_told_again_changes_nothing(self):
        prog = [put(1, 1), STOP]
        self.assertEqual(ask(begin(prog), run(2), *[TOLD] * 3)[2:], [[0, 2, 0, 0, 0, 2, 0]] * 3)
        self.assertEqual(ask(begin(prog), *[TOLD] * 3, run(9), TOLD)[-1], told_at(prog, MOST, 9))


class Cycles(unittest.TestCase):
    def test_they_add_up(self):
        prog = [imm_word(17, 0, 0, -1)]
        rows = ask(begin(prog), run(7), TOLD, run(0), TOLD, run(1), TOLD, run(1000), TOLD)
        self.assertEqual(column(rows[2::2], CYCLES), [7, 7, 8, 1008])

    def test_refused_cycles_do_not_count(self):
        rows = ask(begin([put(1, 1)] * 9), run(2), TOLD, run(-1), TOLD, run(1000001), TOLD)
        self.assertEqual(rows[3::2], [[-2], [-2]])
        self.assertEqual(rows[2], rows[4])
        self.assertEqual(rows[2], rows[6])

    def test_the_one_that_stops_counts_and_none_behind(self):
        for prog, stop, cycles in (([STOP], 1, 2), ([word(9, 1, 0, 0)], 2, 15), ([imm_word(12, 1, 0, -1)], 3, 6),
                                   ([imm_word(13, 1, 0, -1)], 3, 4), ([word(19)], 4, 2), ([], 5, 2)):
            for cfg in (ONE, changed(MOST, {SLOTS: 1})):
                expected = [stop, cycles, 0, 0, 0, 1, 0]
                rows = ask(begin(prog, cfg), run(cycles - 1), TOLD, run(1), TOLD, run(1), TOLD, run(1000000), TOLD)
                self.assertEqual(rows[2][:2], [0, cycles - 1])
                self.assertEqual([rows[4], rows[6], rows[8]], [expected] * 3)
                self.assertEqual(told_at(prog, cfg, 1000000), expected)

    def test_a_million(self):
        # One at a time, the first leaves in cycle 4, the next in 7, and so on: (1000000 - 1) // 3.
        prog = [imm_word(10, 1, 1, 1), imm_word(17, 0, 0, -2)]
        self.assertEqual(told_at(prog, ONE, 1000000), [0, 1000000, 333333, 0, 0, 1, 1])


class Left(unittest.TestCase):
    def test_as_many_as_may(self):
        prog = [put(1, 1)] * 8
        self.assertEqual(column(told_by_cycle(prog, MOST, 6), LEFT), [0, 0, 0, 0, 4, 8, 8])
        self.assertEqual(column(told_by_cycle(prog, changed(MOST, {LEAVE: 3}), 7), LEFT), [0, 0, 0, 0, 3, 6, 8, 8])
        self.assertEqual(column(told_by_cycle(prog, changed(MOST, {LEAVE: 1}), 6), LEFT), [0, 0, 0, 0, 1, 2, 3])

    def test_each_op_counts(self):
        for op in (1, 2, 3, 4, 5, 6, 7, 8, 10, 11, 12, 13, 14, 15, 16, 17):
            for cfg in (ONE, MOST):
                self.assertEqual(told_at([imm_word(op, 1, 0, 0), STOP], cfg, 99)[LEFT:THROWN + 1], [1, 0], op)
        for prog in ([put(1, 1), word(9, 2, 1, 1), STOP], [put(1, 2), word(18, 0, 1), STOP]):
            self.assertEqual(told_at(prog, MOST, 99)[LEFT], 2)

    def test_one_that_stops_does_not_leave(self):
        for stop in (STOP, word(9, 1, 0, 0), imm_word(12, 1, 0, -1), imm_word(13, 1, 0, -1), word(50)):
            for cfg in (ONE, MOST):
                told = told_at([put(2, 2), stop, put(3, 3)], cfg, 99)
                self.assertEqual((told[LEFT], told[THROWN], told[WRONG], told[PLACE]), (1, 0, 0, 1), hex(stop))

    def test_those_thrown_away_do_not_leave(self):
        self.assertEqual(told_at([imm_word(14, 0, 0, 2), put(1, 1), put(2, 2), STOP], MOST, 99)[LEFT], 1)


class Guesses(unittest.TestCase):
    # Register 0 is the same as itself, so this one is always taken.
    TAKEN = imm_word(14, 0, 0, 1)
    BEHIND = [put(1, 1), put(2, 2), STOP]

    def test_rightly_not_taken(self):
        for op in (15, 16):
            for counters in (0, 1, 256):
                cfg = changed(MOST, {COUNTERS: counters})
                self.assertEqual(told_at([imm_word(op, 0, 0, 1), *self.BEHIND], cfg, 99), [1, 4, 3, 0, 0, 1, 3])

    def test_wrongly_not_taken(self):
        for counters in (0, 1, 2, 256):
            rows = told_by_cycle([self.TAKEN, *self.BEHIND], changed(MOST, {COUNTERS: counters}), 8)
            self.assertEqual(rows[1:], [
                [0, 1, 0, 0, 0, 4, 0],
                [0, 2, 0, 0, 0, 4, 0],
                [0, 3, 0, 0, 0, 4, 0],
                [0, 4, 1, 3, 1, 2, 2],
                [0, 5, 1, 3, 1, 2, 2],
                [0, 6, 1, 3, 1, 2, 2],
                [1, 7, 2, 3, 1, 1, 3],
                [1, 7, 2, 3, 1, 1, 3],
            ])

    def test_none_are_thrown_away_where_none_are_behind(self):
        for cfg in (ONE, changed(MOST, {SLOTS: 1})):
            self.assertEqual(told_at([self.TAKEN, *self.BEHIND], cfg, 99), [1, 8, 2, 0, 1, 1, 3])

    def test_15_and_16_wrongly_not_taken(self):
        for op in (15, 16):
            prog = [put(1, -1), imm_word(op, 0, 1, 1), *self.BEHIND]
            # The jump leaves in cycle 5; behind it are three.
            self.assertEqual(told_at(prog, MOST, 5), [0, 5, 2, 3, 1, 2, 3], op)
            self.assertEqual(told_at(prog, MOST, 99), [1, 8, 3, 3, 1, 1, 4], op)

    def test_a_jump_to_the_next_place_is_right_either_way(self):
        for op in (14, 15, 16):
            self.assertEqual(told_at([imm_word(op, 0, 0, 0), put(1, 1), STOP], MOST, 99), [1, 4, 2, 0, 0, 1, 2], op)

    def test_a_loop_without_counters(self):
        prog = [put(1, 3), imm_word(10, 1, 1, -1), imm_word(15, 0, 1, -2), STOP]
        rows = told_by_cycle(prog, changed(MOST, {COUNTERS: 0}), 15)
        # The jump leaves in cycles 6, 10 and 14; the first two times STOP, alone behind it, is thrown away.
        self.assertEqual(column(rows, WRONG), [0] * 6 + [1] * 4 + [2] * 6)
        self.assertEqual(column(rows, THROWN), [0] * 6 + [1] * 4 + [2] * 6)
        self.assertEqual(column(rows, LEFT), [0, 0, 0, 0, 1, 2, 3, 3, 3, 4, 5, 5, 5, 6, 7, 7])
        self.assertEqual(column(rows, PLACE), [0, 0, 0, 0, 1, 2, 1, 1, 1, 2, 1, 1, 1, 2, 3, 3])
        self.assertEqual(rows[-1], [1, 14, 7, 2, 2, 1, 3])

    def test_a_loop_with_counters(self):
        prog = [put(1, 3), imm_word(10, 1, 1, -1), imm_word(15, 0, 1, -2), STOP]
        for counters in (1, 3, 256):
            rows = told_by_cycle(prog, changed(MOST, {COUNTERS: counters}), 13)
            # From cycle 6 on four are fetched in each. In cycle 11 the jump, guessed to be taken, isn't: of 20 that
            # were fetched, four have left.
            self.assertEqual(column(rows, WRONG), [0] * 6 + [1] * 5 + [2] * 3)
            self.assertEqual(column(rows, THROWN), [0] * 6 + [1] * 5 + [17] * 3)
            self.assertEqual(column(rows, LEFT), [0, 0, 0, 0, 1, 2, 3, 3, 3, 4, 6, 7, 7, 7])
            self.assertEqual(column(rows, HOW_MANY), [0, 4, 4, 4, 3, 2, 4, 8, 12, 15, 17, 1, 1, 1])
            self.assertEqual(column(rows, PLACE), [0, 0, 0, 0, 1, 2, 1, 1, 1, 2, 2, 3, 3, 3])
            self.assertEqual(rows[-1], [1, 12, 7, 17, 2, 1, 3])

    def test_counters_that_are_shared(self):
        # Two that are taken, at places 0 and 2: the second is guessed rightly if its counter grew with the first.
        prog = [self.TAKEN, put(1, 1), self.TAKEN, put(1, 2), STOP]
        for counters, wrong in ((0, 2), (1, 1), (2, 1), (3, 2), (256, 2)):
            self.assertEqual(told_at(prog, changed(MOST, {COUNTERS: counters}), 99)[WRONG], wrong, counters)

    def test_17_is_always_right(self):
        for counters in (0, 1, 256):
            prog = [imm_word(17, 1, 0, 1), put(2, 2), put(3, 3), STOP]
            self.assertEqual(told_at(prog, changed(MOST, {COUNTERS: counters}), 99), [1, 4, 2, 0, 0, 1, 3])

    def test_18_is_always_wrong_and_throws_none_away(self):
        for counters in (0, 1, 256):
            cfg = changed(MOST, {COUNTERS: counters})
            rows = told_by_cycle([put(1, 2), word(18, 0, 1), STOP], cfg, 6)
            self.assertEqual(rows[1:], [
                [0, 1, 0, 0, 0, 2, 0],
                [0, 2, 0, 0, 0, 2, 0],
                [0, 3, 0, 0, 0, 2, 0],
                [0, 4, 1, 0, 0, 1, 1],
                [0, 5, 2, 0, 1, 1, 2],
                [1, 6, 2, 0, 1, 1, 2],
            ])
            self.assertEqual(told_at([put(1, 3), word(18, 0, 1), STOP, STOP], cfg, 99), [1, 6, 2, 0, 1, 1, 3])
        # It goes on at its own place: every third cycle.
        self.assertEqual(column(told_by_cycle([word(18)], ONE, 10), WRONG), [0, 0, 0, 0, 1, 1, 1, 2, 2, 2, 3])

    def test_one_thrown_away_is_no_wrong_guess(self):
        # Behind the first jump an 18 and a jump that's wrong too; neither leaves.
        self.assertEqual(told_at([imm_word(14, 0, 0, 2), imm_word(14, 0, 0, 3), word(18), STOP], MOST, 99),
                         [1, 5, 1, 2, 1, 1, 3])

    def test_those_behind_a_stop_are_not_thrown_away(self):
        # 9 is done in cycle 14; behind it the jump, whose guess is wrong, and two more are done, too.
        prog = [word(9, 1, 0, 0), imm_word(14, 0, 0, 1), put(1, 1), put(2, 2)]
        self.assertEqual(told_at(prog, MOST, 99), [2, 15, 0, 0, 0, 5, 0])


class HowMany(unittest.TestCase):
    SLOW = [put(1, 1), word(9, 2, 1, 1), word(9, 2, 2, 1)] + [put(3, 3)] * 90

    def counts(self, changes, cycles):
        return column(told_by_cycle(self.SLOW, changed(MOST, changes), cycles), HOW_MANY)

    def test_as_many_as_are_fetched_and_have_not_left(self):
        # The first leaves in cycle 4, the second in 16.
        self.assertEqual(self.counts({}, 6), [0, 4, 8, 12, 15, 19, 23])
        self.assertEqual(self.counts({FETCHED: 1}, 6), [0, 1, 2, 3, 3, 4, 5])
        self.assertEqual(self.counts({FETCHED: 3}, 5), [0, 3, 6, 9, 11, 14])

    def test_no_more_than_told(self):
        for slots in (1, 2, 3, 4):
            self.assertEqual(self.counts({SLOTS: slots}, 3), [0, slots, slots, slots])
        self.assertEqual(self.counts({SLOTS: 6}, 6), [0, 4, 6, 6, 6, 6, 6])
        # By cycle 16 two of 64 have left; from then on it's full, until the second 9 leaves in cycle 28.
        self.assertEqual(self.counts({}, 27)[14:], [55, 59, 62, 64, 64, 64, 64, 64, 64, 64, 64, 64, 64, 64])

    def test_none_behind_18_and_those_that_stop(self):
        for last in (word(18, 0, 2), STOP, word(19), word(255)):
            prog = [put(1, 1), word(9, 2, 1, 1), last, put(3, 3), put(4, 4)]
            self.assertEqual(column(told_by_cycle(prog, MOST, 6), HOW_MANY), [0, 3, 3, 3, 2, 2, 2])
        # Behind the program it's one.
        self.assertEqual(column(told_by_cycle(self.SLOW[:2], MOST, 6), HOW_MANY), [0, 3, 3, 3, 2, 2, 2])

    def test_those_behind_a_stop_are_still_there(self):
        # The words at 2 to 4 and one behind the program.
        prog = [put(1, 1), word(9, 2, 1, 0), put(3, 3), put(4, 4), put(5, 5)]
        self.assertEqual(told_at(prog, MOST, 15), [0, 15, 1, 0, 0, 5, 1])
        self.assertEqual(told_at(prog, MOST, 99), [2, 16, 1, 0, 0, 5, 1])


class Place(unittest.TestCase):
    def test_of_the_first_slot(self):
        prog = [put(1, 1)] * 8
        self.assertEqual(column(told_by_cycle(prog, changed(MOST, {LEAVE: 3}), 7), PLACE), [0, 0, 0, 0, 3, 6, 8, 8])

    def test_behind_the_program(self):
        self.assertEqual(told_by_cycle([], MOST, 2)[1:], [[0, 1, 0, 0, 0, 1, 0], [5, 2, 0, 0, 0, 1, 0]])
        self.assertEqual(told_by_cycle([put(1, 1)], ONE, 5)[4:], [[0, 4, 1, 0, 0, 1, 1], [5, 5, 1, 0, 0, 1, 1]])
        self.assertEqual(told_at([put(1, 1)] * 1024, MOST, 9999)[PLACE], 1024)

    def test_far_behind_the_program(self):
        rows = told_by_cycle([put(1, -1), word(18, 0, 1)], MOST, 6)
        self.assertEqual(rows[5:], [[0, 5, 2, 0, 1, 1, TOP - 1], [5, 6, 2, 0, 1, 1, TOP - 1]])
        for imm in (-2, -32768, 1, 32767):
            for jump, wrong in ((imm_word(17, 1, 0, imm), 0), (imm_word(14, 0, 0, imm), 1)):
                told = told_at([jump], ONE, 99)
                self.assertEqual((told[STOPPED], told[WRONG], told[PLACE]), (5, wrong, (1 + imm) % TOP))

    def test_behind_a_jump(self):
        prog = [imm_word(17, 1, 0, 2), put(2, 2), STOP, imm_word(17, 1, 0, -3)]
        self.assertEqual(column(told_by_cycle(prog, ONE, 11), PLACE), [0, 0, 0, 0, 3, 3, 3, 1, 1, 1, 2, 2])

    def test_where_it_stops(self):
        for stop in (STOP, word(9, 1, 0, 0), imm_word(12, 1, 0, -1), imm_word(13, 1, 0, -1), word(50)):
            for at in (0, 1, 5):
                for cfg in (ONE, MOST):
                    told = told_at([put(2, 2)] * at + [stop, put(3, 3)], cfg, 99)
                    self.assertEqual((told[LEFT], told[PLACE]), (at, at))


class ManyTimes(unittest.TestCase):
    def test_counts_are_by_2_to_the_32(self):
        # No list of calls is long enough for such counts, so they're set here.
        machine = Machine([STOP], [], ONE)
        machine.cycles_run = TOP + 1
        machine.have_left = TOP + 2
        machine.thrown_away = 3 * TOP + 3
        machine.wrong_guesses = TOP
        self.assertEqual(told_answer(machine), [0, 1, 2, 3, 0, 0, 0])


class Looking(unittest.TestCase):
    def test_looks_change_nothing(self):
        prog = [put(1, 3), imm_word(10, 1, 1, -1), imm_word(13, 1, 0, 1), imm_word(15, 0, 1, -3), STOP]
        looks = [TOLD, REGS, cells_of(0, 5), cells_of(-1, 5), slot(0), slot(63), slot(64), run(0), run(-1)]
        for cfg in (ONE, MOST):
            calls = [begin(prog, cfg)]
            for _ in range(25):
                calls += [run(1), *looks]
            self.assertEqual(ask(*calls)[-9], told_at(prog, cfg, 25))


if __name__ == '__main__':
    unittest.main()
