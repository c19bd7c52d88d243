"""Promise 2: set."""

import unittest

from tests.helper import (
    ask, ask_last, begin, ground, is_set, look, put, ring, sets, turn, BIT_31, COMPLETE, KINDS, PEACEFUL, STABLE)


class Set(unittest.TestCase):
    def test_no_arguments(self):
        self.assertEqual(ask(begin(), put([]), sets(PEACEFUL)), [[0], [0], [1, 0]])
        self.assertEqual(ask_last(begin(), put([0, 0]), put([]), is_set(PEACEFUL, 1)), [-1])

    def test_one_argument(self):
        self.assertEqual(ask(begin(), put([0]), sets(PEACEFUL)), [[0], [0], [2, 0, 1]])
        self.assertEqual(ask(begin(), put([1]), sets(PEACEFUL)), [[0], [0], [1, 0]])

    def test_the_bits_are_those_that_are_beaten(self):
        self.assertEqual(ask_last(begin(), put([0b010, 0b000, 0b000]), sets(STABLE)), [1, 0b101])
        self.assertEqual(ask_last(begin(), put([0b000, 0b101, 0b000]), sets(STABLE)), [1, 0b010])
        self.assertEqual(ask_last(begin(), put([0b000, 0b000, 0b001]), sets(STABLE)), [1, 0b110])

    def test_sixteen_arguments(self):
        self.assertEqual(ask(begin(), put([0] * 16), ground()), [[0], [0], [0, 65535]])
        self.assertEqual(ask(begin(), put([65535] * 16), sets(PEACEFUL)), [[0], [0], [1, 0]])
        self.assertEqual(ask(begin(), put([0] * 15 + [32767]), ground()), [[0], [0], [0, 32768]])
        self.assertEqual(ask_last(begin(), put([0] * 16), is_set(PEACEFUL, 65536)), [-1])

    def test_it_takes_the_place_of_what_was(self):
        for kind in KINDS:
            behind = ask_last(begin(), put(ring(5)), sets(kind), put([2, 0]), sets(kind))
            self.assertEqual(behind, ask_last(begin(), put([2, 0]), sets(kind)))
        self.assertEqual(ask_last(begin(), put([0]), put([0] * 3), sets(COMPLETE)), [1, 7])

    def test_a_bit_that_is_no_arguments_is_refused(self):
        for n in (1, 2, 5, 15, 16):
            for bad in (1 << n, BIT_31, (1 << 32) - 1, 1 << n | 1):
                for place in {0, n // 2, n - 1}:
                    beats = [0] * n
                    beats[place] = bad
                    self.assertEqual(ask(begin(), put(beats)), [[0], [-1]])

    def test_the_highest_bit_that_is_an_arguments_is_not(self):
        for n in (1, 2, 5, 15, 16):
            self.assertEqual(ask_last(begin(), put([1 << n - 1] * n)), [0])

    def test_one_bad_number_among_good_ones(self):
        self.assertEqual(ask_last(begin(), put([2, 8, 1])), [-1])
        self.assertEqual(ask_last(begin(), put([2, 4, BIT_31])), [-1])

    def test_more_than_sixteen_are_refused_and_passed_over(self):
        self.assertEqual(ask(begin(), put([0]), put([0] * 17), ground()), [[0], [0], [-1], [0, 1]])

    def test_all_is_as_it_was_behind_a_refusal(self):
        for beats in ([], [1], ring(3), ring(4), [0, 5, 1]):
            for bad in ([2], [0, 4], [0, 0, BIT_31], [0] * 17):
                before = ask(begin(), put(beats), *look())[2:]
                behind = ask(begin(), put(beats), put(bad), *look())
                self.assertEqual(behind[2], [-1])
                self.assertEqual(behind[3:], before)

    def test_what_it_set_can_be_turned(self):
        self.assertEqual(ask_last(begin(), put([2, 0]), turn(0, 1, 0), ground()), [0, 3])
