"""The one function: how calls stand in its list, how answers do, and that nothing is kept or changed."""

import contextlib
import io
import unittest

from outoforder import processor
from outoforder.processor import answers
from tests.support import MOST, ONE, REGS, STOP, TOLD, begin, cells_of, imm_word, put, run, slot, split, word

PROG = [put(1, 7), imm_word(13, 1, 0, 2), imm_word(12, 2, 0, 2), word(9, 3, 2, 1), imm_word(14, 0, 0, -5)]
MIXED = [
    *begin(PROG, MOST, [1, 2, 3]), *TOLD, *slot(0), *cells_of(0, 4), *run(1), *slot(4), *slot(2), *run(3), *TOLD,
    *slot(0), *cells_of(0, 4), *REGS, *run(5), *REGS, *slot(64), *run(-1), *cells_of(1024, 1), *cells_of(2, 1),
    *run(11), *TOLD, *cells_of(1024, 0), *run(40), *REGS, *TOLD, *slot(63), *run(0), *cells_of(0, 1024),
]


class Untouched(list):
    """A list that can't be changed."""

    def refuse(self, *_, **__):
        raise AssertionError('what is handed in is changed')

    append = extend = insert = pop = remove = clear = reverse = sort = refuse
    __setitem__ = __delitem__ = __iadd__ = __imul__ = refuse


class Form(unittest.TestCase):
    def test_how_many_then_these(self):
        told = answers([*begin([put(1, 7)], ONE), *run(4), *REGS, *run(-1), *run(1), *run(0)])
        self.assertEqual(told, [1, 0, 1, 0, 17, 0, 0, 7, *[0] * 14, 1, -2, 1, 5, 1, 5])

    def test_each_of_the_six(self):
        prog = [put(1, 7), imm_word(13, 1, 0, 1), STOP]
        calls = [*begin(prog, ONE, [5]), *slot(0), *TOLD, *run(5), *slot(0), *TOLD, *cells_of(0, 2), *REGS,
                 *cells_of(-1, 2), *slot(1), *slot(-1), *run(2), *cells_of(1, 1), *cells_of(9, 0), *slot(0)]
        self.assertEqual(answers(calls), [
            1, 0, 1, -3, 7, *[0] * 7, 1, 0, 6, 0, 1, prog[1], 1, 1, 7, 7, 0, 5, 1, 0, 0, 1, 1, 3, 2, 5, 0,
            17, 0, 0, 7, *[0] * 14, 1, -2, 1, -3, 1, -2, 1, 0, 2, 1, 7, 1, 0, 6, 0, 2, 0, 3, 0, 0])

    def test_numbers_of_cells_that_look_like_calls(self):
        told = answers([*begin([], ONE, [9, 8, 7, 6, 5, 4]), 3, 1, 2, 3, 4, 2, 3, 5, 1, 5, 2, 5, 5, 4])
        self.assertEqual(told, [1, 0, 3, 2, 8, 7, 3, 2, 5, 4, 2, 1, 4, 1, -3, 1, -3, 7, *[0] * 7])

    def test_a_number_that_is_no_call(self):
        for number in (6, 7, -1, 0):
            with self.assertRaises(processor.UnknownCall):
                answers([*begin([], ONE), *TOLD, number])

    def test_begin_alone(self):
        self.assertEqual(answers(begin([], ONE)), [1, 0])
        self.assertEqual(answers(begin([], [0] * 9)), [1, -3])

    def test_rows_that_look_like_calls(self):
        # The numbers of the program and the cells are those of calls and lengths.
        told = answers([0, 3, 2, 1, 0, 4, 9, 1, 2, 0, 9, *ONE, 1, 5, 2])
        self.assertEqual(told, [1, 0, 1, 1, 17, *[0] * 17])

    def test_whole_numbers_in_a_list(self):
        told = answers(MIXED)
        self.assertIs(type(told), list)
        for number in told:
            self.assertIs(type(number), int)

    def test_300_calls(self):
        calls = begin([imm_word(10, 1, 1, 1), imm_word(17, 0, 0, -2)], ONE) + run(6) * 298 + REGS
        told = answers(calls)
        self.assertEqual(told[:-18], [1, 0] + [1, 0] * 298)
        self.assertEqual(told[-18:], [17, 0, 0, 298, *[0] * 14])

    def test_as_long_as_may_be(self):
        prog = [imm_word(10, 1, 1, 1)] * 1023 + [STOP]
        told = answers(begin(prog, MOST, [2 ** 32 - 1] * 1024) + run(1000000) + REGS * 298)
        self.assertEqual(told[:4], [1, 0, 1, 1])
        self.assertEqual(told[4:], [17, 0, 0, 1023, *[0] * 14] * 298)

    def test_the_longest_answer(self):
        cells = list(range(1024))
        told = answers(begin([], MOST, cells) + cells_of(0, 1024) * 299)
        self.assertEqual(told, [1, 0] + [1025, 1024, *cells] * 299)

    def test_an_answer_s_cells_are_those_of_its_time(self):
        prog = [put(1, 7), imm_word(13, 1, 0, 1), STOP]
        rows = split(answers([*begin(prog), *cells_of(0, 3), *REGS, *run(99), *cells_of(0, 3), *REGS]))
        self.assertEqual(rows[1:3], [[3, 0, 0, 0], [0] * 17])
        self.assertEqual(rows[4:], [[3, 0, 7, 0], [0, 0, 7, *[0] * 14]])

    def test_names(self):
        self.assertIs(processor.answers, answers)
        self.assertEqual(answers(calls=begin([], ONE)), [1, 0])


class NothingKept(unittest.TestCase):
    def test_what_is_handed_in_stays(self):
        calls = list(MIXED)
        answers(calls)
        self.assertEqual(calls, MIXED)

    def test_not_changed_for_a_while_either(self):
        self.assertEqual(answers(Untouched(MIXED)), answers(MIXED))

    def test_the_same_again(self):
        first = answers(MIXED)
        self.assertEqual(answers(MIXED), first)
        answers(begin([put(1, 1)] * 9, ONE, [8] * 1024) + run(100))
        self.assertEqual(answers(MIXED), first)

    def test_an_answer_may_be_changed(self):
        first = answers(MIXED)
        kept = list(first)
        first.clear()
        self.assertEqual(answers(MIXED), kept)

    def test_prints_nothing(self):
        out, err = io.StringIO(), io.StringIO()
        with contextlib.redirect_stdout(out), contextlib.redirect_stderr(err):
            answers(MIXED)
        self.assertEqual(out.getvalue() + err.getvalue(), '')


if __name__ == '__main__':
    unittest.main()
