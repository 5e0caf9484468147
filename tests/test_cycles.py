"""Cycle by cycle: what leaves when. The numbers here are worked out by hand from the document.

One that waits for nothing is fetched in a cycle, begins in the next, runs for its cycles (the last
of them makes it done), and leaves in the one behind.
"""

import unittest

from tests.support import FETCHED, LEAVE, MOST, ONE, OTHERS, PASSED_ON, SLOTS, STOP, UNITS_8, UNITS_9, UNITS_12
from tests.support import by_cycle, changed, imm_word, put, set_at, stops_at, word

FOUR = [put(which, which) for which in range(1, 5)]


def times(prog, cfg, cells=()):
    """For each of registers 1 to 4 the cycle in which it's first set."""
    return [set_at(prog, cfg, which, cells)[0][0] for which in range(1, 5)]


class Kinds(unittest.TestCase):
    def test_how_many_cycles_each_takes(self):
        for op in range(1, 18):
            if op == 9:
                continue
            expected = {8: 8, 12: 7}.get(op, 5)
            for cfg in (ONE, changed(MOST, {SLOTS: 1})):
                self.assertEqual(stops_at([imm_word(op, 1, 0, 0), STOP], cfg), (expected, 1), op)

    def test_9(self):
        self.assertEqual(stops_at([put(1, 1), word(9, 2, 1, 1), STOP], ONE), (19, 1))
        self.assertEqual(stops_at([word(9, 2, 1, 1), STOP], ONE), (15, 2))

    def test_18(self):
        self.assertEqual(stops_at([put(1, 2), word(18, 0, 1), STOP], ONE), (8, 1))

    def test_cells_that_there_are_none_of(self):
        self.assertEqual(stops_at([imm_word(12, 1, 0, -1)], ONE), (6, 3))
        self.assertEqual(stops_at([imm_word(13, 1, 0, -1)], ONE), (4, 3))


class HowMany(unittest.TestCase):
    def test_all_at_most(self):
        self.assertEqual(times(FOUR, MOST), [4, 4, 4, 4])

    def test_one_at_a_time(self):
        self.assertEqual(times(FOUR, ONE), [4, 7, 10, 13])

    def test_each_by_itself(self):
        for which in (FETCHED, LEAVE, PASSED_ON, OTHERS):
            self.assertEqual(times(FOUR, changed(MOST, {which: 1})), [4, 5, 6, 7], which)
            self.assertEqual(times(FOUR, changed(MOST, {which: 2})), [4, 4, 5, 5], which)
            self.assertEqual(times(FOUR, changed(MOST, {which: 3})), [4, 4, 4, 5], which)

    def test_slots(self):
        self.assertEqual(times(FOUR, changed(MOST, {SLOTS: 1})), [4, 7, 10, 13])
        self.assertEqual(times(FOUR, changed(MOST, {SLOTS: 2})), [4, 4, 7, 7])
        self.assertEqual(times(FOUR, changed(MOST, {SLOTS: 3})), [4, 4, 4, 7])

    def test_a_slot_is_free_in_the_cycle_in_which_it_leaves(self):
        self.assertEqual(times(FOUR, changed(MOST, {SLOTS: 2, LEAVE: 1})), [4, 5, 7, 8])

    def test_no_more_slots_than_told(self):
        # With the division at the front nothing leaves, so the last one isn't fetched before.
        prog = [put(15, 1), word(9, 1, 15, 15)] + [put(5, 5)] * 5 + [put(2, 2), put(3, 3), put(4, 4)]
        self.assertEqual(times(prog, changed(MOST, {SLOTS: 64})), [16, 17, 17, 18])
        self.assertEqual(times(prog, changed(MOST, {SLOTS: 8})), [16, 17, 17, 19])

    def test_they_leave_in_order(self):
        prog = [imm_word(12, 1, 0, 0), put(2, 2), put(3, 3), put(4, 4)]
        self.assertEqual(times(prog, MOST, [1]), [6, 6, 6, 6])
        self.assertEqual(times(prog, changed(MOST, {LEAVE: 2}), [1]), [6, 6, 7, 7])

    def test_those_in_front_set_theirs_in_the_cycle_of_the_stop(self):
        prog = [put(1, 1), put(2, 2), STOP, put(3, 3)]
        rows = by_cycle(prog, MOST, 4)
        self.assertEqual(rows[2], (0, [0] * 16))
        self.assertEqual(rows[3], (1, [0, 1, 2] + [0] * 13))
        self.assertEqual(stops_at(prog, changed(MOST, {LEAVE: 2})), (5, 1))


class Values(unittest.TestCase):
    def test_each_begins_when_the_one_before_is_done(self):
        prog = [put(1, 1), word(1, 2, 1, 1), word(1, 3, 2, 1), word(1, 4, 3, 3)]
        self.assertEqual(times(prog, MOST), [4, 5, 6, 7])

    def test_both_values_are_waited_for(self):
        for a, b in ((1, 2), (2, 1), (2, 2)):
            prog = [put(1, 1), imm_word(12, 2, 0, 0), word(1, 3, a, b), word(1, 4, 3, 3)]
            self.assertEqual(times(prog, MOST, [9]), [4, 6, 7, 8])

    def test_of_the_last_in_front(self):
        prog = [imm_word(12, 1, 0, 0), put(1, 7), imm_word(10, 2, 1, 1), put(1, 9), STOP]
        # The third is done long before the first, and has the 7.
        cfg = changed(MOST, {LEAVE: 3})
        self.assertEqual(set_at(prog, cfg, 2, [5]), [(6, 8)])
        self.assertEqual(set_at(prog, cfg, 1, [5]), [(6, 7), (7, 9)])

    def test_of_one_that_has_left(self):
        prog = [put(1, 7), imm_word(12, 5, 0, 0), put(6, 1), put(6, 1), put(6, 1), imm_word(10, 2, 1, 1), STOP]
        self.assertEqual(set_at(prog, changed(ONE, {SLOTS: 2}), 2), [(13, 8)])

    def test_13_to_16_wait_for_d(self):
        for op in (13, 14, 15, 16):
            prog = [imm_word(12, 1, 0, 0), imm_word(op, 1, 0, 0), put(2, 2), put(3, 3), put(4, 4)]
            self.assertEqual(times(prog, MOST, [5]), [6, 7, 7, 7], op)

    def test_10_to_12_and_17_do_not_read_d_or_b(self):
        for op in (10, 11, 12, 17):
            prog = [imm_word(12, 1, 0, 0), imm_word(op, 1, 0, 0), put(2, 2), put(3, 3), put(4, 4)]
            self.assertEqual([set_at(prog, MOST, which, [5])[0][0] for which in (2, 3, 4)], [6, 6, 7], op)
        # Register 1 stands where b does in other words.
        prog = [imm_word(12, 1, 0, 0), imm_word(10, 2, 0, 0x1000), put(3, 3), put(4, 4)]
        self.assertEqual(times(prog, MOST, [5]), [6, 6, 6, 6])

    def test_11_and_17_do_not_read_a(self):
        for op in (11, 17):
            prog = [imm_word(12, 1, 0, 0), imm_word(op, 2, 1, 0), put(3, 3), put(4, 4)]
            self.assertEqual(set_at(prog, MOST, 4, [5]), [(6, 4)], op)

    def test_13_to_16_set_nothing_that_is_waited_for(self):
        for op in (13, 14, 15, 16):
            # 12 makes the op slow; what reads its d doesn't wait for it.
            prog = [put(1, 1), imm_word(12, 5, 0, 0), imm_word(op, 1, 5, 0), word(8, 2, 1, 1), STOP]
            self.assertEqual(set_at(prog, MOST, 2, [0]), [(8, 1)], op)

    def test_register_0_is_always_there(self):
        prog = [put(1, 1), word(9, 0, 1, 1), word(8, 2, 0, 1), STOP]
        self.assertEqual(stops_at(prog, MOST), (16, 1))


class Units(unittest.TestCase):
    def test_8(self):
        prog = [put(5, 3), word(8, 1, 5, 5), word(8, 2, 5, 5), word(8, 3, 5, 5), word(8, 4, 5, 5)]
        self.assertEqual(times(prog, changed(MOST, {UNITS_8: 1})), [8, 12, 16, 20])
        self.assertEqual(times(prog, changed(MOST, {UNITS_8: 2})), [8, 8, 12, 12])
        self.assertEqual(times(prog, changed(MOST, {UNITS_8: 4})), [8, 8, 8, 8])

    def test_9(self):
        prog = [put(5, 3), word(9, 1, 5, 5), word(9, 2, 5, 5), word(9, 3, 5, 5), word(9, 4, 5, 5)]
        self.assertEqual(times(prog, changed(MOST, {UNITS_9: 1})), [16, 28, 40, 52])
        self.assertEqual(times(prog, changed(MOST, {UNITS_9: 2})), [16, 16, 28, 28])
        self.assertEqual(times(prog, changed(MOST, {UNITS_9: 4})), [16, 16, 16, 16])

    def test_12(self):
        prog = [imm_word(12, which, 0, 0) for which in range(1, 5)]
        self.assertEqual(times(prog, changed(MOST, {UNITS_12: 1}), [5]), [6, 9, 12, 15])
        self.assertEqual(times(prog, changed(MOST, {UNITS_12: 3}), [5]), [6, 6, 6, 9])

    def test_13_shares_with_12(self):
        prog = [imm_word(12, 1, 0, 0), imm_word(13, 0, 0, 1), STOP]
        self.assertEqual(stops_at(prog, changed(MOST, {UNITS_12: 1})), (7, 1))
        self.assertEqual(stops_at(prog, changed(MOST, {UNITS_12: 2})), (6, 1))

    def test_jumps_share_with_the_others(self):
        for op in (14, 15, 16, 17):
            prog = [imm_word(op, 0, 0, 0), put(1, 1), STOP]
            self.assertEqual(stops_at(prog, changed(MOST, {OTHERS: 1})), (5, 1), op)
            self.assertEqual(stops_at(prog, changed(MOST, {OTHERS: 2})), (4, 1), op)
        prog = [put(1, 1), put(2, 3), word(18, 0, 2), STOP]
        # 18 begins in cycle 3 or, where the unit is held till then by the second, in cycle 4.
        self.assertEqual(stops_at(prog, changed(MOST, {OTHERS: 2})), (6, 1))
        self.assertEqual(stops_at(prog, changed(MOST, {OTHERS: 1})), (7, 1))

    def test_kinds_do_not_share(self):
        single = [4, 4, 4, 64, 1, 1, 1, 1, 0]
        for first, cycle in ((word(8, 1, 0, 0), 7), (imm_word(12, 1, 0, 0), 6)):
            for second in (put(2, 1), word(8, 2, 0, 0), imm_word(13, 2, 0, 0)):
                if second >> 24 == first >> 24 or (first >> 24, second >> 24) == (12, 13):
                    continue
                expected = max(cycle, 7 if second >> 24 == 8 else 0)
                self.assertEqual(stops_at([first, second, STOP], single), (expected, 1))
        self.assertEqual(stops_at([put(5, 1), word(9, 1, 5, 5), word(8, 1, 5, 5), STOP], single), (16, 1))

    def test_the_first_that_may_goes_first(self):
        # The second 9 could begin in cycle 3; the first waits for 8 until cycle 7.
        prog = [put(5, 1), word(8, 6, 5, 5), word(9, 1, 6, 5), word(9, 2, 5, 5), put(3, 3), put(4, 4)]
        self.assertEqual(times(prog, changed(MOST, {UNITS_9: 1})), [28, 28, 28, 28])
        self.assertEqual(times(prog, changed(MOST, {UNITS_9: 2})), [20, 20, 20, 20])

    def test_what_has_run_holds_its_unit(self):
        # Register 1 is passed on in cycle 6, ahead of the first 8; so that one is done in cycle 7 only.
        prog = [imm_word(12, 5, 0, 0), word(1, 1, 5, 5), word(8, 2, 6, 6), word(8, 3, 6, 6), STOP]
        self.assertEqual(stops_at(prog, changed(MOST, {PASSED_ON: 1, UNITS_8: 1})), (12, 1))
        self.assertEqual(stops_at(prog, changed(MOST, {PASSED_ON: 2, UNITS_8: 1})), (11, 1))


class PassedOn(unittest.TestCase):
    def test_the_first_in_the_slots_are(self):
        # 8 and the last have both run in cycle 6: 8 is passed on, the other waits for its turn.
        prog = [word(8, 1, 5, 5), imm_word(12, 5, 0, 0), imm_word(10, 2, 5, 1), STOP]
        self.assertEqual(stops_at(prog, changed(MOST, {PASSED_ON: 1}), [6]), (8, 1))
        self.assertEqual(stops_at(prog, changed(MOST, {PASSED_ON: 2}), [6]), (7, 1))

    def test_what_waits_for_a_result_that_is_not_passed_on(self):
        prog = [put(1, 1), put(2, 2), imm_word(10, 3, 2, 1), imm_word(10, 4, 3, 1)]
        self.assertEqual(times(prog, MOST), [4, 4, 5, 6])
        self.assertEqual(times(prog, changed(MOST, {PASSED_ON: 1})), [4, 5, 6, 7])


class LoadsBehindStores(unittest.TestCase):
    def test_it_waits_and_gets_what_was_stored(self):
        prog = [put(1, 9), imm_word(13, 1, 0, 2), imm_word(12, 2, 0, 2), STOP]
        self.assertEqual(set_at(prog, MOST, 2, [4] * 5), [(8, 9)])

    def test_it_waits_for_another_cell_too(self):
        prog = [put(1, 9), imm_word(13, 1, 0, 2), imm_word(12, 2, 0, 3), STOP]
        self.assertEqual(set_at(prog, MOST, 2, [4] * 5), [(8, 4)])

    def test_it_does_not_wait_for_those_behind(self):
        prog = [put(1, 9), imm_word(12, 2, 0, 2), imm_word(13, 1, 0, 2), STOP]
        self.assertEqual(set_at(prog, MOST, 2, [4] * 5), [(6, 4)])

    def test_it_waits_for_all_and_gets_the_last(self):
        start = [put(5, 3), word(8, 1, 5, 5)]
        slow = imm_word(13, 1, 0, 2)
        fast = imm_word(13, 5, 0, 2)
        load = imm_word(12, 2, 0, 2)
        self.assertEqual(set_at([*start, slow, fast, load, STOP], MOST, 2), [(12, 3)])
        self.assertEqual(set_at([*start, fast, slow, load, STOP], MOST, 2), [(12, 9)])

    def test_it_gets_the_last_of_its_own_cell(self):
        start = [put(5, 3), put(6, 4)]
        stores = [imm_word(13, 5, 0, 2), imm_word(13, 6, 0, 3)]
        for cell, value in ((2, 3), (3, 4), (4, 8)):
            # One cycle more than above: the load is fetched with the second four.
            self.assertEqual(set_at([*start, *stores, imm_word(12, 2, 0, cell), STOP], MOST, 2, [8] * 5), [(8, value)])

    def test_a_store_whose_place_is_late(self):
        prog = [imm_word(12, 1, 0, 0), put(2, 7), imm_word(13, 2, 1, 0), imm_word(12, 3, 0, 4), STOP]
        self.assertEqual(set_at(prog, MOST, 3, [4, 0, 0, 0, 1]), [(10, 7)])

    def test_the_cell_itself_when_the_store_has_left(self):
        prog = [put(1, 9), imm_word(13, 1, 0, 2), imm_word(12, 2, 0, 2), STOP]
        self.assertEqual(set_at(prog, ONE, 2, [4] * 5), [(12, 9)])


class NothingFetchedBehind(unittest.TestCase):
    # A second 9 that began ahead of the first, which waits for 8, would hold the only unit.
    START = [put(1, 5), word(8, 2, 1, 1), word(9, 3, 2, 1)]
    LATER = word(9, 4, 1, 1)

    def check(self, ending, expected):
        cfg = changed(MOST, {UNITS_9: 1})
        self.assertEqual(stops_at([*self.START, ending, self.LATER, STOP], cfg), expected)

    def test_a_word_that_goes_on(self):
        self.check(put(5, 1), (28, 1))

    def test_18(self):
        self.check(word(18, 0, 1), (21, 1))

    def test_words_that_stop(self):
        self.check(STOP, (20, 1))
        self.check(word(19), (20, 4))
        self.check(word(255), (20, 4))

    def test_behind_the_program(self):
        self.assertEqual(stops_at(self.START, changed(MOST, {UNITS_9: 1})), (20, 5))

    def test_fetched_on_when_18_has_left(self):
        for place in (3, 2):
            prog = [put(1, place), word(18, 0, 1), put(2, 9), put(3, 4), STOP]
            self.assertEqual(set_at(prog, MOST, 3), [(8, 4)])
            self.assertEqual(set_at(prog, MOST, 2), [(8, 9)] if place == 2 else [])
            self.assertEqual(stops_at(prog, MOST), (8, 1))


if __name__ == '__main__':
    unittest.main()
