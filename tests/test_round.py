"""Promise 8: round."""

import unittest

from tests.helper import (
    ask, ask_last, beats_of, begin, chain, cut, every_beats, mixed_beats, put, ring, round_of, turn, Told,
    HIGHEST, LOWEST)


class Round(unittest.TestCase):
    def check(self, beats, *wanted):
        found = ask(begin(), put(beats), *[round_of(a) for a in range(len(beats))])
        self.assertEqual(found[2:], [[number] for number in wanted], beats)

    def test_along_a_chain(self):
        self.check(chain(1), 1)
        self.check(chain(2), 1, 2)
        self.check(chain(3), 1, 2, 3)
        self.check(chain(5), 1, 2, 3, 4, 5)
        self.check(chain(16), *range(1, 17))

    def test_along_a_chain_against_the_order_of_numbers(self):
        self.check(beats_of(6, [(a + 1, a) for a in range(5)]), 6, 5, 4, 3, 2, 1)

    def test_nobody_is_beaten(self):
        for n in (2, 5, 16):
            self.check([0] * n, *[1] * n)

    def test_in_by_the_very_last_round_that_counts(self):
        self.check([0], 1)

    def test_in_none_and_beaten_by_none(self):
        self.check([1], 0)
        for n in (2, 3, 4, 16):
            self.check(ring(n), *[0] * n)
        self.check(beats_of(2, [(0, 0), (0, 1)]), 0, 0)
        self.check(beats_of(4, [(0, 1), (1, 0), (0, 2), (1, 2), (2, 3)]), 0, 0, 0, 0)

    def test_some_of_each(self):
        self.check(beats_of(5, [(0, 1), (1, 2), (3, 4), (4, 3)]), 1, 2, 3, 0, 0)

    def test_one_that_beats_itself_and_is_beaten(self):
        self.check(beats_of(2, [(0, 1), (1, 1)]), 1, 2)
        self.check(beats_of(4, [(0, 1), (1, 2), (2, 3), (3, 3)]), 1, 2, 3, 4)

    def test_the_first_round_that_beats_it(self):
        self.check(beats_of(4, [(0, 1), (1, 2), (0, 3), (2, 3)]), 1, 2, 3, 2)
        self.check(beats_of(4, [(3, 2), (2, 1), (1, 0), (3, 0)]), 2, 3, 2, 1)

    def test_in_only_when_all_that_beat_it_are_beaten(self):
        self.check(beats_of(5, [(0, 1), (1, 2), (2, 3), (1, 4), (3, 4)]), 1, 2, 3, 4, 5)
        self.check(beats_of(4, [(0, 1), (1, 3), (2, 2), (2, 3)]), 1, 2, 0, 0)

    def test_in_by_a_round_though_it_beats_what_beats_it(self):
        self.check(beats_of(4, [(0, 1), (1, 2), (2, 1), (2, 3), (3, 2)]), 1, 2, 0, 0)
        self.check(beats_of(3, [(0, 1), (1, 2), (2, 1)]), 1, 2, 3)

    def test_a_ring_that_is_beaten_from_without(self):
        self.check(beats_of(4, [(0, 1), (1, 2), (2, 0), (3, 0)]), 2, 3, 4, 1)

    def test_it_follows_each_change(self):
        found = ask(
            begin(), put(chain(4)), round_of(3), turn(0, 1, 0), round_of(3), turn(3, 2, 1), round_of(3),
            turn(1, 2, 0), round_of(3), cut(4), round_of(3), put([1]), round_of(0), begin(), round_of(0))
        self.assertEqual(found[2::2], [[4], [3], [3], [0], [0], [0], [-1]])

    def test_no_a_is_refused(self):
        for beats in ([], [0], [1], ring(4), [0] * 16):
            n = len(beats)
            for a in (-1, -2, -16, n, n + 1, 16, 31, 32, LOWEST, HIGHEST):
                self.assertEqual(ask_last(begin(), put(beats), round_of(a)), [-1], (beats, a))

    def test_there_are_no_arguments_at_all(self):
        for a in (0, 1, -1, LOWEST, HIGHEST):
            self.assertEqual(ask(begin(), round_of(a)), [[0], [-1]])

    def test_all_there_is_of_up_to_three(self):
        for n in range(4):
            for beats in every_beats(n):
                told = Told(beats)
                self.check(beats, *[told.round_of(a) for a in range(n)])

    def test_some_of_five_and_eight(self):
        for n in (5, 8):
            for beats in mixed_beats(n, 150):
                told = Told(beats)
                self.check(beats, *[told.round_of(a) for a in range(n)])
