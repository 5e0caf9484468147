"""slot: its place, its word, 0 to 3, the cycles left, its value. The cycles are worked out by hand."""

import unittest

from tests.support import COUNTERS, FETCHED, LEAVE, MOST, ONE, OTHERS, PASSED_ON, REGS, SLOTS, STOP, TOLD, TOP
from tests.support import UNITS_8, UNITS_9, UNITS_12, after_cycles, ask, begin, cells_of, changed, imm_word, put, run
from tests.support import slot, slots_at, told_at, word

BIG = TOP - 1
WAITS, RUNS, HAS_RUN, DONE = range(4)


def states(prog, cfg, cycles, cells=()):
    """0 to 3 of all slots behind so many cycles."""
    return [row[2] for row in slots_at(prog, cfg, cycles, cells)]


def values(prog, cfg, cycles, cells=()):
    return [row[4] for row in slots_at(prog, cfg, cycles, cells)]


class Which(unittest.TestCase):
    def test_refused(self):
        for k in (-1, 64, 65, -2147483648, 2147483647):
            for cycles in (0, 3, 99):
                self.assertEqual(after_cycles([put(1, 1)] * 99, MOST, cycles, [slot(k)]), [[-2]], k)
                self.assertEqual(after_cycles([STOP], ONE, cycles, [slot(k)]), [[-2]], k)

    def test_there_is_none_before_any_cycle(self):
        for cfg in (ONE, MOST):
            self.assertEqual(after_cycles([put(1, 1)], cfg, 0, [slot(0), slot(1), slot(63)]), [[-3]] * 3)

    def test_there_is_none_behind_the_last(self):
        # In cycle 20 the first two have left, and the second 9 still runs.
        prog = [put(1, 1), word(9, 2, 1, 1), word(9, 2, 2, 1)] + [put(3, 3)] * 90
        for slots in (2, 5, 63):
            rows = after_cycles(prog, changed(MOST, {SLOTS: slots}), 20, [slot(slots - 1), slot(slots), slot(63)])
            self.assertEqual([rows[0][:2], rows[1], rows[2]], [[0, slots + 1], [-3], [-3]])
        rows = after_cycles(prog, ONE, 20, [slot(0), slot(1), slot(63)])
        self.assertEqual([rows[0][:2], rows[1], rows[2]], [[0, 2], [-3], [-3]])

    def test_all_64(self):
        prog = [put(1, 1), word(9, 2, 1, 1), word(9, 2, 2, 1)] + [put(3, k) for k in range(90)]
        rows = slots_at(prog, MOST, 20)
        self.assertEqual([row[0] for row in rows], list(range(2, 66)))
        self.assertEqual([row[1] for row in rows], prog[2:66])
        self.assertEqual(after_cycles(prog, MOST, 20, [slot(63)])[0][:3], [0, 65, prog[65]])

    def test_refusal_leaves_all_as_it_was(self):
        prog = [put(1, 7), imm_word(13, 1, 0, 0), STOP]
        looks = [REGS, TOLD, slot(0), cells_of(0, 3)]
        plain = ask(begin(prog), run(3), *looks, run(2), *looks)
        mixed = ask(begin(prog), run(3), slot(-1), slot(64), *looks, run(2), slot(9), *looks)
        self.assertEqual(mixed[2:4] + mixed[9:10], [[-2], [-2], [-3]])
        self.assertEqual(mixed[:2] + mixed[4:9] + mixed[10:], plain)


class EachOp(unittest.TestCase):
    def check(self, instruction, value, cells, cycles=1, goes_on=3):
        """It stands behind two words of 12, so it's fetched in cycle 11, and begins in 12, in the only slot."""
        prog = [imm_word(12, 1, 0, 0), imm_word(12, 2, 0, 1), instruction, put(9, 9), put(9, 9)]
        calls = [begin(prog, ONE, cells), run(10)]
        for _ in range(cycles + 3):
            calls += [run(1), slot(0)]
        rows = ask(*calls)[3::2]
        left = list(range(cycles, 0, -1))
        expected = [[0, 2, instruction, WAITS, 0, 0]]
        expected += [[0, 2, instruction, RUNS, cycle, value] for cycle in left]
        expected += [[0, 2, instruction, DONE, 0, value]]
        expected += [[0, goes_on, prog[goes_on], WAITS, 0, 0]] if goes_on else expected[-1:]
        self.assertEqual(rows, expected, hex(instruction))

    def test_1_to_7(self):
        for op, value in ((1, 23), (2, 17), (3, 0), (4, 23), (5, 23), (6, 160), (7, 2)):
            self.check(word(op, 3, 1, 2), value, [20, 3])
        for op, value in ((1, 1), (2, BIG - 2), (3, 2), (4, BIG), (5, BIG - 2), (6, BIG - 3), (7, BIG >> 2)):
            self.check(word(op, 3, 1, 2), value, [BIG, 2])

    def test_8(self):
        self.check(word(8, 3, 1, 2), 60, [20, 3], 4)
        self.check(word(8, 3, 1, 2), BIG - 2, [BIG, 3], 4)

    def test_9(self):
        self.check(word(9, 3, 1, 2), 6, [20, 3], 12)
        self.check(word(9, 3, 1, 2), BIG // 2, [BIG, 2], 12)

    def test_10_11(self):
        self.check(imm_word(10, 3, 1, -21), BIG, [20, 3])
        self.check(imm_word(10, 3, 2, 32767), 32770, [20, 3])
        self.check(imm_word(11, 3, 1, 0x8001), 0x80010000, [20, 3])
        self.check(imm_word(11, 3, 1, 5), 0x50000, [20, 3])

    def test_12(self):
        self.check(imm_word(12, 3, 1, -18), 77, [20, 3, 77], 3)
        self.check(imm_word(12, 3, 2, 1020), 0, [20, 3, 77], 3)

    def test_13_what_the_cell_becomes(self):
        self.check(imm_word(13, 1, 2, 0), 20, [20, 3])
        self.check(imm_word(13, 2, 1, 1003), 3, [20, 3])
        self.check(imm_word(13, 0, 1, 0), 0, [20, 3, *[8] * 30])

    def test_14_to_16_have_none(self):
        for op, goes_on in ((14, 3), (15, 4), (16, 3)):
            self.check(imm_word(op, 2, 1, 1), 0, [20, 3], 1, goes_on)
        for op, goes_on in ((14, 3), (15, 4), (16, 4)):
            self.check(imm_word(op, 2, 1, 1), 0, [BIG, 3], 1, goes_on)
        self.check(imm_word(14, 2, 1, 1), 0, [5, 5], 1, 4)

    def test_17(self):
        self.check(imm_word(17, 3, 1, 1), 3, [20, 3], 1, 4)
        self.check(imm_word(17, 3, 1, -1), 3, [20, 3], 1, 2)

    def test_18_has_none(self):
        self.check(word(18, 3, 1, 2), 0, [4, 3], 1, 4)
        self.check(word(18, 3, 2, 1), 0, [4, 3], 1, 3)

    def test_register_0_what_it_would_become(self):
        for op, value in ((1, 23), (2, 17), (4, 23), (5, 23), (6, 160), (7, 2)):
            self.check(word(op, 0, 1, 2), value, [20, 3])
        self.check(word(8, 0, 1, 2), 60, [20, 3], 4)
        self.check(word(9, 0, 1, 2), 6, [20, 3], 12)
        self.check(imm_word(10, 0, 1, 1), 21, [20, 3])
        self.check(imm_word(11, 0, 1, 1), 0x10000, [20, 3])
        self.check(imm_word(12, 0, 1, 0), 44, [20, 3, *[0] * 18, 44], 3)
        self.check(imm_word(17, 0, 1, 0), 3, [20, 3])

    def test_those_that_stop_have_none(self):
        self.check(word(9, 1, 1, 2), 0, [20, 0], 12, None)
        self.check(imm_word(12, 1, 1, 0), 0, [1024, 3], 3, None)
        self.check(imm_word(12, 1, 1, 0), 0, [BIG, 3], 3, None)
        self.check(imm_word(13, 2, 1, 0), 0, [1024, 3], 1, None)
        self.check(imm_word(13, 2, 1, -21), 0, [20, 3], 1, None)


class DoneAtOnce(unittest.TestCase):
    def test_words_that_stop(self):
        for each in (STOP, 0x00FFFFFF, word(19), word(19) + 0xFFFFFF, word(255, 1, 2, 3), BIG):
            for cycles in (1, 2, 99):
                for cfg in (ONE, MOST):
                    self.assertEqual(slots_at([each], cfg, cycles), [[0, each, DONE, 0, 0]], hex(each))

    def test_behind_the_program(self):
        for cycles in (1, 2, 99):
            for cfg in (ONE, MOST):
                self.assertEqual(slots_at([], cfg, cycles), [[0, 0, DONE, 0, 0]])
        self.assertEqual(slots_at([put(1, 1)], MOST, 1), [[0, put(1, 1), WAITS, 0, 0], [1, 0, DONE, 0, 0]])
        self.assertEqual(slots_at([put(1, 1)], MOST, 99), [[1, 0, DONE, 0, 0]])
        jump = imm_word(17, 1, 0, -2)
        self.assertEqual(slots_at([jump], MOST, 1), [[0, jump, WAITS, 0, 0], [BIG, 0, DONE, 0, 0]])
        self.assertEqual(slots_at([put(1, -7), word(18, 0, 1)], MOST, 5), [[TOP - 7, 0, DONE, 0, 0]])

    def test_they_are_behind_those_that_wait(self):
        prog = [word(8, 1, 1, 1), word(99), put(2, 2)]
        self.assertEqual(slots_at(prog, MOST, 2), [[0, prog[0], RUNS, 4, 0], [1, prog[1], DONE, 0, 0]])


class HasRun(unittest.TestCase):
    FOUR = [put(which, which + 10) for which in range(1, 5)] + [STOP]

    def test_what_cannot_be_passed_on_yet(self):
        cfg = changed(MOST, {PASSED_ON: 1})
        self.assertEqual(states(self.FOUR, cfg, 1), [0, 0, 0, 0])
        self.assertEqual(states(self.FOUR, cfg, 2), [1, 1, 1, 1, 3])
        self.assertEqual(states(self.FOUR, cfg, 3), [3, 2, 2, 2, 3])
        self.assertEqual(states(self.FOUR, cfg, 4), [3, 2, 2, 3])
        self.assertEqual(states(self.FOUR, cfg, 5), [3, 2, 3])
        self.assertEqual(states(self.FOUR, cfg, 6), [3, 3])
        self.assertEqual(states(self.FOUR, changed(MOST, {PASSED_ON: 2}), 3), [3, 3, 2, 2, 3])
        self.assertEqual(states(self.FOUR, changed(MOST, {PASSED_ON: 3}), 3), [3, 3, 3, 2, 3])
        self.assertEqual(states(self.FOUR, MOST, 3), [3, 3, 3, 3, 3])

    def test_all_of_it(self):
        rows = slots_at(self.FOUR, changed(MOST, {PASSED_ON: 1}), 4)
        expected = [[1, put(2, 12), DONE, 0, 12], [2, put(3, 13), HAS_RUN, 0, 13], [3, put(4, 14), HAS_RUN, 0, 14]]
        self.assertEqual(rows, expected + [[4, STOP, DONE, 0, 0]])

    def test_the_first_in_the_slots_comes_first(self):
        # 8 begins in cycle 2 and has run in 6; the words of 10 have run in 3 and 6.
        prog = [word(8, 1, 0, 0), imm_word(12, 5, 0, 0), imm_word(10, 2, 5, 1), STOP]
        cfg = changed(MOST, {PASSED_ON: 1})
        self.assertEqual(states(prog, cfg, 5, [6]), [1, 3, 1, 3])
        self.assertEqual(states(prog, cfg, 6, [6]), [3, 3, 2, 3])
        self.assertEqual(values(prog, cfg, 6, [6]), [0, 6, 7, 0])
        self.assertEqual(states(prog, cfg, 7, [6]), [3, 3])

    def test_it_is_not_read_before_it_is_passed_on(self):
        prog = [put(1, 1), put(2, 2), imm_word(10, 3, 2, 1), STOP]
        cfg = changed(MOST, {PASSED_ON: 1})
        self.assertEqual(slots_at(prog, cfg, 3)[1:3], [[1, put(2, 2), HAS_RUN, 0, 2], [2, prog[2], WAITS, 0, 0]])
        self.assertEqual(slots_at(prog, cfg, 4)[:2], [[1, put(2, 2), DONE, 0, 2], [2, prog[2], RUNS, 1, 3]])

    def test_it_holds_its_unit(self):
        # Of two units both are held in cycle 3 by one that's passed on in 3 and one in 4.
        cfg = changed(MOST, {PASSED_ON: 1, OTHERS: 2})
        self.assertEqual(states(self.FOUR, cfg, 2), [1, 1, 0, 0, 3])
        self.assertEqual(states(self.FOUR, cfg, 3), [3, 2, 1, 0, 3])
        self.assertEqual(states(self.FOUR, cfg, 4), [3, 2, 1, 3])

    def test_stores_and_jumps_are_passed_on_too(self):
        for op in (13, 14, 15, 16):
            prog = [imm_word(op, 0, 0, 0), put(1, 1), STOP]
            self.assertEqual(states(prog, changed(MOST, {PASSED_ON: 1}), 3), [3, 2, 3], op)


class Waiting(unittest.TestCase):
    def test_for_a_unit(self):
        kinds = ((put(1, 1), OTHERS, 1), (word(8, 1, 0, 0), UNITS_8, 4), (word(9, 1, 0, 0), UNITS_9, 12),
                 (imm_word(12, 1, 0, 0), UNITS_12, 3), (imm_word(13, 1, 0, 0), UNITS_12, 1))
        for each, which, cycles in kinds:
            prog = [each] * 3 + [STOP]
            self.assertEqual(states(prog, changed(MOST, {which: 1}), 2), [1, 0, 0, 3])
            self.assertEqual(states(prog, changed(MOST, {which: 2}), 2), [1, 1, 0, 3])
            self.assertEqual(states(prog, changed(MOST, {which: 3}), 2), [1, 1, 1, 3])
            self.assertEqual(states(prog, changed(MOST, {which: 1}), 2 + cycles), [3, 1, 0, 3])

    def test_for_values(self):
        prog = [put(1, 1), word(8, 2, 1, 1), imm_word(10, 3, 2, 1), imm_word(10, 4, 1, 4)]
        expected = {1: [0, 0, 0, 0], 2: [1, 0, 0, 0], 3: [3, 1, 0, 1], 4: [1, 0, 3], 6: [1, 0, 3], 7: [3, 1, 3], 8: [3, 3]}
        for cycles, row in expected.items():
            self.assertEqual(states(prog, MOST, cycles)[:len(row)], row, cycles)
        self.assertEqual(values(prog, MOST, 6)[:3], [1, 0, 5])
        self.assertEqual(values(prog, MOST, 7)[:3], [1, 2, 5])

    def test_12_for_all_13_in_front(self):
        prog = [put(1, 4), imm_word(13, 1, 0, 0), imm_word(13, 1, 1, 0), imm_word(12, 2, 0, 9)]
        self.assertEqual(states(prog, MOST, 3)[:4], [3, 1, 1, 0])
        self.assertEqual(states(prog, MOST, 4)[:3], [3, 3, 1])
        slow = [put(1, 4), word(8, 3, 1, 1), imm_word(13, 3, 0, 0), imm_word(12, 2, 0, 9)]
        # The store's value is there in cycle 7.
        for cycles, row in ((4, [1, 0, 0]), (7, [3, 1, 0]), (8, [3, 1])):
            self.assertEqual(states(slow, MOST, cycles)[:len(row)], row)

    def test_12_not_for_those_behind(self):
        prog = [imm_word(12, 2, 0, 9), imm_word(13, 2, 0, 9), STOP]
        self.assertEqual(states(prog, MOST, 2), [1, 0, 3])

    def test_not_for_register_0(self):
        # What's put into register 0 can't be read, so nothing waits for it.
        prog = [word(8, 0, 0, 0), imm_word(10, 1, 0, 5), imm_word(13, 0, 0, 1), imm_word(14, 0, 0, 0)]
        self.assertEqual(states(prog, MOST, 2)[:4], [1, 1, 1, 1])
        self.assertEqual(values([put(0, 9), imm_word(10, 1, 0, 5), STOP], MOST, 3), [9, 5, 0])

    def test_not_in_the_cycle_in_which_it_is_fetched(self):
        self.assertEqual(states([put(1, 1)] * 9, changed(MOST, {FETCHED: 2}), 2), [1, 1, 0, 0])


class Values(unittest.TestCase):
    def test_of_the_last_slot_in_front(self):
        prog = [put(1, 7), put(1, 8), imm_word(10, 2, 1, 1), put(1, 9), imm_word(10, 3, 1, 1), STOP]
        # The first two leave in cycle 4.
        self.assertEqual(values(prog, MOST, 4), [9, 9, 10, 0])
        # Each reads its own while the division holds all of them back.
        self.assertEqual(values([word(9, 4, 0, 0), *prog], MOST, 9), [0, 7, 8, 9, 9, 10, 0])

    def test_of_13_to_16_nothing_is_read(self):
        for op in (13, 14, 15, 16):
            prog = [put(1, 5), imm_word(op, 1, 1, 0), imm_word(10, 2, 1, 1), STOP]
            self.assertEqual(values(prog, changed(MOST, {LEAVE: 1}), 4)[1], 6, op)

    def test_of_one_that_stops_it_is_0(self):
        # Register 1 holds 5, but what waits for the one that stops gets 0.
        for stop, cycles in ((word(9, 1, 1, 0), 12), (imm_word(12, 1, 0, -1), 3)):
            prog = [put(1, 5), stop, imm_word(10, 2, 1, 3), imm_word(13, 1, 0, 6), imm_word(14, 1, 0, 9)]
            # It begins in cycle 3 or, where it reads nothing, in 2.
            done = cycles + (3 if stop >> 24 == 9 else 2)
            rows = slots_at(prog, MOST, done, [8] * 9)
            rows = [row for row in rows if row[0] in (1, 2, 3)]
            self.assertEqual(rows, [[1, stop, DONE, 0, 0], [2, prog[2], RUNS, 1, 3], [3, prog[3], RUNS, 1, 0]])

    def test_12_gets_what_the_last_13_in_front_wrote(self):
        start = [word(9, 9, 0, 0), put(1, 5), put(2, 6)]
        prog = [*start, imm_word(13, 1, 0, 3), imm_word(13, 2, 0, 3), imm_word(13, 1, 0, 4), imm_word(12, 3, 0, 3),
                imm_word(12, 3, 0, 4), imm_word(12, 3, 0, 5), imm_word(13, 0, 0, 3), STOP]
        self.assertEqual(values(prog, MOST, 13, [8] * 9), [0, 5, 6, 5, 6, 5, 6, 5, 8, 0, 0])

    def test_12_gets_nothing_from_a_13_that_stops(self):
        # The first store's cell is none; were it cell 0, both loads would get the 5.
        prog = [word(9, 9, 0, 0), put(1, 5), imm_word(13, 1, 0, -1), imm_word(12, 3, 0, 0), STOP]
        self.assertEqual(values(prog, MOST, 12, [8] * 9), [0, 5, 0, 8, 0])
        prog = [word(9, 9, 0, 0), put(1, 5), put(2, 6), imm_word(13, 1, 0, 0), imm_word(13, 2, 0, 1024),
                imm_word(12, 3, 0, 0), STOP]
        self.assertEqual(values(prog, MOST, 12, [8] * 9), [0, 5, 6, 5, 0, 5, 0])

    def test_there_as_soon_as_it_begins(self):
        prog = [imm_word(12, 1, 0, 1), word(8, 2, 0, 0), STOP]
        self.assertEqual(slots_at(prog, MOST, 1, [3, 4])[0], [0, prog[0], WAITS, 0, 0])
        self.assertEqual(slots_at(prog, MOST, 2, [3, 4])[0], [0, prog[0], RUNS, 3, 4])

    def test_of_the_register_where_the_one_in_front_has_left(self):
        prog = [put(1, 7), *[put(2, 2)] * 20, imm_word(10, 3, 1, 1), STOP]
        rows = [row for cycles in range(99) for row in slots_at(prog, changed(ONE, {SLOTS: 2}), cycles) if row[0] == 21]
        self.assertEqual(rows[-1], [21, prog[21], DONE, 0, 8])


class MovingUp(unittest.TestCase):
    def test_those_behind_one_that_leaves(self):
        prog = [put(1, k) for k in range(6)] + [STOP]
        cfg = changed(MOST, {LEAVE: 1})
        for cycles, first in ((3, 0), (4, 1), (5, 2), (6, 3), (9, 6), (10, 6), (99, 6)):
            rows = slots_at(prog, cfg, cycles)
            self.assertEqual([row[0] for row in rows], list(range(first, 7)), cycles)
            self.assertEqual([row[1] for row in rows], prog[first:], cycles)

    def test_a_place_twice(self):
        prog = [imm_word(10, 1, 1, 1), imm_word(17, 2, 0, -2)]
        rows = slots_at(prog, MOST, 3)
        self.assertEqual([row[0] for row in rows], [0, 1] * 6)
        self.assertEqual([row[4] for row in rows], [1, 2, 2, 2, 0, 2, 0, 2, 0, 0, 0, 0])

    def test_those_behind_a_stop_stay(self):
        prog = [word(9, 1, 0, 0), put(2, 5), word(8, 3, 1, 2), STOP]
        for cycles in (15, 16, 99):
            # 9 is done in cycle 14, when 8 begins; then all stops.
            self.assertEqual(slots_at(prog, MOST, cycles), [
                [0, prog[0], DONE, 0, 0], [1, prog[1], DONE, 0, 5], [2, prog[2], RUNS, 4, 0], [3, STOP, DONE, 0, 0]])


class ThrownAway(unittest.TestCase):
    def test_they_are_gone(self):
        prog = [imm_word(14, 0, 0, 2), put(1, 1), put(2, 2), put(3, 3), STOP]
        self.assertEqual([row[0] for row in slots_at(prog, MOST, 3)], [0, 1, 2, 3, 4])
        self.assertEqual(slots_at(prog, MOST, 4), [[3, prog[3], WAITS, 0, 0], [4, STOP, DONE, 0, 0]])
        self.assertEqual(slots_at(prog, MOST, 5), [[3, prog[3], RUNS, 1, 3], [4, STOP, DONE, 0, 0]])

    def test_what_they_wrote_is_gone(self):
        prog = [put(1, 5), imm_word(14, 0, 0, 2), put(1, 6), imm_word(13, 1, 0, 3), imm_word(10, 2, 1, 1),
                imm_word(12, 3, 0, 3), STOP]
        # The jump leaves in cycle 4; the words at 4 to 6 are fetched in it.
        self.assertEqual(values(prog, MOST, 5, [8] * 9), [6, 8, 0])

    def test_a_taken_jump_is_fetched_at_once_where_it_is_guessed(self):
        prog = [imm_word(10, 1, 1, 1), imm_word(14, 0, 0, -2)]
        cfg = changed(MOST, {COUNTERS: 1})
        # At first it's guessed not to be taken; it leaves in cycle 4.
        self.assertEqual([row[0] for row in slots_at(prog, cfg, 3)], [0, 1, 2])
        self.assertEqual([row[0] for row in slots_at(prog, cfg, 4)], [0, 1, 0, 1])
        self.assertEqual([row[0] for row in slots_at(prog, changed(MOST, {COUNTERS: 0}), 4)], [0, 1, 2])

    def test_behind_18(self):
        prog = [put(1, 3), word(18, 0, 1), put(2, 2), put(3, 3), STOP]
        self.assertEqual([row[0] for row in slots_at(prog, MOST, 4)], [1])
        self.assertEqual(slots_at(prog, MOST, 5), [[3, prog[3], WAITS, 0, 0], [4, STOP, DONE, 0, 0]])

    def test_as_many_are_there_as_are_told(self):
        prog = [put(1, 3), imm_word(10, 1, 1, -1), word(8, 2, 1, 1), imm_word(15, 0, 1, -3), STOP]
        for cfg in (ONE, MOST, changed(MOST, {COUNTERS: 0, SLOTS: 7})):
            for cycles in range(40):
                rows = slots_at(prog, cfg, cycles)
                told = told_at(prog, cfg, cycles)
                self.assertEqual(len(rows), told[5])
                self.assertEqual(rows[0][0] if rows else 0, told[6])


if __name__ == '__main__':
    unittest.main()
