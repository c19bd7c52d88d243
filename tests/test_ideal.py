"""Promise 7: ideal."""

import unittest

from tests.helper import (
    ask, beats_of, begin, chain, cut, every_beats, ground, ideal, mixed_beats, put, ring, sets, turn, Told, FULL)

PAIRS = [1 << (a ^ 1) for a in range(16)]


class Ideal(unittest.TestCase):
    def check(self, beats, wanted):
        self.assertEqual(ask(begin(), put(beats), ideal()), [[0], [0], [0, wanted]], beats)

    def check_beside(self, beats, fulls, stands, wanted):
        """What is full and what stands anyhow, told beside it, shows which case it is."""
        found = ask(begin(), put(beats), sets(FULL), ground(), ideal())[2:]
        self.assertEqual(found, [[len(fulls)] + fulls, [0, stands], [0, wanted]], beats)

    def test_no_arguments(self):
        self.assertEqual(ask(begin(), ideal()), [[0], [0, 0]])
        self.check_beside([], [0], 0, 0)

    def test_where_it_is_what_stands_anyhow(self):
        self.check_beside([0], [1], 1, 1)
        self.check_beside(chain(3), [0b101], 0b101, 0b101)
        self.check_beside(chain(16), [0x5555], 0x5555, 0x5555)
        self.check_beside([0] * 16, [65535], 65535, 65535)
        self.check_beside(beats_of(3, [(0, 1), (1, 0)]), [0b101, 0b110], 0b100, 0b100)

    def test_where_it_has_more_than_what_stands_anyhow(self):
        self.check_beside(beats_of(4, [(0, 1), (1, 0), (1, 2), (2, 3), (3, 1)]), [0b0101], 0, 0b0101)
        pair = beats_of(5, [(0, 1), (1, 0), (1, 1), (3, 4)])
        self.check_beside(pair, [0b01101], 0b01100, 0b01101)

    def test_with_several_full_sets(self):
        self.check_beside(beats_of(4, [(0, 1), (1, 0), (1, 1), (2, 3), (3, 2)]), [0b0101, 0b1001], 0, 0b0001)
        self.check_beside(
            beats_of(5, [(0, 1), (1, 0), (1, 1), (2, 3), (3, 2)]), [0b10101, 0b11001], 0b10000, 0b10001)

    def test_where_only_the_empty_set_is_within(self):
        self.check_beside(ring(2), [1, 2], 0, 0)
        self.check_beside(ring(3), [0], 0, 0)
        self.check_beside(ring(4), [5, 10], 0, 0)

    def test_what_all_full_sets_have_may_not_hold(self):
        both = [(0, 1), (1, 0), (0, 2), (1, 2), (2, 3)]
        self.check_beside(beats_of(4, both), [0b1001, 0b1010], 0, 0)
        self.check_beside(beats_of(5, both), [0b11001, 0b11010], 0b10000, 0b10000)
        self.check_beside(beats_of(6, both + [(4, 5), (5, 4), (5, 5)]), [0b11001, 0b11010], 0, 0b10000)

    def test_with_arguments_that_beat_themselves(self):
        self.check_beside([1], [0], 0, 0)
        self.check_beside(beats_of(2, [(0, 0), (0, 1)]), [0], 0, 0)
        self.check_beside(beats_of(2, [(0, 0), (0, 1), (1, 0)]), [2], 0, 2)
        self.check_beside(beats_of(2, [(0, 0), (1, 0)]), [2], 2, 2)
        self.check([65535] * 16, 0)

    def test_sixteen_in_pairs(self):
        self.check(PAIRS, 0)
        one_of_each = [PAIRS[a] | a % 2 << a for a in range(16)]
        self.check(one_of_each, 0x5555)
        self.check(one_of_each[:14] + PAIRS[14:], 0x1555)

    def test_it_follows_each_change(self):
        found = ask(
            begin(), put(ring(2)), ideal(), turn(1, 1, 1), ideal(), turn(0, 1, 0), ideal(), turn(1, 0, 0), ideal(),
            cut(1), ideal(), put([0, 1]), ideal(), begin(), ideal())
        self.assertEqual(found[2::2], [[0, 0], [0, 1], [0, 0], [0, 1], [0, 0], [0, 2], [0, 0]])

    def test_all_there_is_of_up_to_three(self):
        for n in range(4):
            for beats in every_beats(n):
                self.check(beats, Told(beats).ideal())

    def test_some_of_four_to_seven(self):
        for n, how_many in ((4, 150), (5, 90), (6, 45), (7, 21)):
            for beats in mixed_beats(n, how_many):
                self.check(beats, Told(beats).ideal())
