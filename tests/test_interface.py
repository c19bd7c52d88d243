"""The interface: one list of calls in, one list of answers out."""

import unittest

from beatsround.desk import answers

from tests.helper import (
    answer, begin, cut, ground, ideal, is_set, put, ring, round_of, sets, status, turn, FULL, PEACEFUL)

A_LINE = [
    0,
    1, 3, 2, 4, 0,
    5,
    2, 0, 1, 0,
    5,
    3, 0, 2,
    4, 0, 3,
    4, 7, 3,
    3, 0, 0,
    1, 1, 9,
    0,
    3, 6, 1,
    1, 4, 2, 5, 0, 4,
    6,
    7, 2,
    7, 4,
    8, 2,
    8, 0,
    9, 3, 3,
    9, 3, 0,
    9, 7, 0,
    10, 1,
    5,
    7, 1,
    10, 16,
    6,
]
ITS_ANSWERS = [
    1, 0,
    1, 0,
    2, 0, 5,
    1, 0,
    2, 0, 3,
    3, 6, 0, 1,
    1, 1,
    1, -1,
    1, 6,
    1, -1,
    1, 0,
    2, 1, 0,
    1, 0,
    2, 0, 8,
    1, 2,
    1, -1,
    1, 3,
    1, -2,
    1, 3,
    1, 1,
    1, -1,
    1, 2,
    2, 0, 8,
    1, 0,
    1, -1,
    2, 0, 8,
]


class Interface(unittest.TestCase):
    def test_the_empty_list(self):
        self.assertEqual(answers([]), [])

    def test_several_calls_one_behind_another(self):
        self.assertEqual(answers(A_LINE), ITS_ANSWERS)

    def test_each_answer_is_behind_how_many_numbers_it_has(self):
        self.assertEqual(answers([0]), [1, 0])
        self.assertEqual(answers([0, 5]), [1, 0, 2, 0, 0])
        self.assertEqual(answers([0, 1, 0]), [1, 0, 1, 0])
        self.assertEqual(answers([0, 1, 2, 2, 1, 3, 3, 65536]), [1, 0, 1, 0, 3, 2, 1, 2])

    def test_numbers_of_a_row_are_not_taken_for_calls(self):
        self.assertEqual(answers([0, 1, 4, 5, 5, 5, 5, 5]), [1, 0, 1, 0, 2, 0, 0b1010])
        self.assertEqual(answers([0, 1, 2, 5, 5, 5]), [1, 0, 1, -1, 2, 0, 0])

    def test_calls_on_what_earlier_calls_left(self):
        calls = begin() + put([0, 0, 0]) + turn(0, 1, 1) + turn(1, 2, 1) + ground() + turn(2, 0, 1) + ground()
        self.assertEqual(answers(calls), [1, 0, 1, 0, 1, 0, 1, 0, 2, 0, 0b101, 1, 0, 2, 0, 0])

    def test_each_use_is_as_if_the_first(self):
        self.assertEqual(answers(A_LINE), answers(A_LINE))
        answers(begin() + put(ring(4)) + sets(FULL))
        self.assertEqual(answers(ground()), [2, 0, 0])
        self.assertEqual(answers(turn(0, 0, 1)), [1, -1])
        self.assertEqual(answers(is_set(PEACEFUL, 1)), [1, -1])
        self.assertEqual(answers(sets(FULL)), [2, 1, 0])
        self.assertEqual(answers(ideal()), [2, 0, 0])
        self.assertEqual(answers(round_of(0)), [1, -1])
        self.assertEqual(answers(answer(0)), [1, -1])
        self.assertEqual(answers(status(FULL, 0)), [1, -1])
        self.assertEqual(answers(cut(1)), [1, -1])

    def test_what_was_given_back_can_be_changed_without_a_trace(self):
        first = answers(A_LINE)
        first.clear()
        self.assertEqual(answers(A_LINE), ITS_ANSWERS)

    def test_what_is_handed_in_is_not_changed(self):
        calls = list(A_LINE)
        answers(calls)
        self.assertEqual(calls, A_LINE)

    def test_what_is_handed_in_is_not_changed_for_a_while_either(self):
        class Watched(list):
            def refuse(self, *given):
                raise AssertionError("changed")

            append = clear = extend = insert = pop = remove = reverse = sort = refuse
            __setitem__ = __delitem__ = __iadd__ = __imul__ = refuse

        self.assertEqual(answers(Watched(A_LINE)), ITS_ANSWERS)

    def test_only_whole_numbers_come_back(self):
        written = answers(A_LINE)
        self.assertEqual(type(written), list)
        self.assertEqual({type(number) for number in written}, {int})

    def test_two_hundred_calls(self):
        calls = begin() + put([0] * 16) + (turn(15, 15, 1) + ground()) * 99
        self.assertEqual(answers(calls), [1, 0, 1, 0] + [1, 0, 2, 0, 32767] * 99)
