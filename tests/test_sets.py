"""Promise 4: sets."""

import unittest

from tests.helper import (
    ask_last, beats_of, begin, every_beats, mixed_beats, put, ring, sets, Told,
    COMPLETE, FAR, FULL, GREAT, HIGHEST, HOLDING, KINDS, LOWEST, PEACEFUL, STABLE)

EVEN = 0x5555
ODD = 0xAAAA


def found(beats, kind):
    """The sets of the kind, behind which the number of them is checked."""
    answer = ask_last(begin(), put(beats), sets(kind))
    assert answer[0] == len(answer) - 1, answer
    return answer[1:]


class Kinds(unittest.TestCase):
    def check(self, beats, *by_kind):
        for kind in KINDS:
            self.assertEqual(found(beats, kind), by_kind[kind], (beats, kind))

    def test_no_arguments(self):
        self.check([], [0], [0], [0], [0], [0], [0], [0])

    def test_one(self):
        self.check([0], [0, 1], [0, 1], [1], [1], [1], [1], [1])

    def test_one_that_beats_itself(self):
        self.check([1], [0], [0], [0], [0], [], [0], [0])

    def test_one_beats_another(self):
        self.check([2, 0], [0, 1, 2], [0, 1], [1], [1], [1], [1], [1, 2])

    def test_two_that_beat_each_other(self):
        self.check([2, 1], [0, 1, 2], [0, 1, 2], [0, 1, 2], [1, 2], [1, 2], [1, 2], [1, 2])

    def test_a_ring_of_three(self):
        self.check(ring(3), [0, 1, 2, 4], [0], [0], [0], [], [0], [1, 2, 4])

    def test_a_ring_of_four(self):
        self.check(ring(4), [0, 1, 2, 4, 5, 8, 10], [0, 5, 10], [0, 5, 10], [5, 10], [5, 10], [5, 10], [5, 10])

    def test_a_ring_of_five(self):
        pairs = [5, 9, 10, 18, 20]
        self.check(ring(5), sorted([0, 1, 2, 4, 8, 16] + pairs), [0], [0], [0], [], [0], pairs)

    def test_far_is_less_than_full_where_nothing_is_stable(self):
        beats = beats_of(4, [(0, 1), (1, 0), (1, 2), (2, 2), (3, 3)])
        self.check(beats, [0, 1, 2], [0, 1, 2], [0, 1, 2], [1, 2], [], [2], [1, 2])

    def test_far_is_more_than_one_where_none_reaches_all_of_another(self):
        beats = beats_of(4, [(0, 1), (1, 0), (0, 2), (2, 2), (1, 3), (3, 3)])
        self.check(beats, [0, 1, 2], [0, 1, 2], [0, 1, 2], [1, 2], [], [1, 2], [1, 2])

    def test_holding_without_all_that_it_shields(self):
        beats = beats_of(3, [(0, 1), (1, 2)])
        self.check(beats, [0, 1, 2, 4, 5], [0, 1, 5], [5], [5], [5], [5], [2, 5])

    def test_one_that_beats_itself_can_be_beaten(self):
        self.check(beats_of(2, [(0, 0), (1, 0)]), [0, 2], [0, 2], [2], [2], [2], [2], [2])

    def test_one_that_beats_itself_is_not_added_to_a_great_set(self):
        self.check(beats_of(2, [(0, 0)]), [0, 2], [0, 2], [2], [2], [], [2], [2])

    def test_sixteen_that_beat_nobody(self):
        every = list(range(65536))
        self.check([0] * 16, every, every, [65535], [65535], [65535], [65535], [65535])

    def test_sixteen_that_beat_all(self):
        self.check([65535] * 16, [0], [0], [0], [0], [], [0], [0])

    def test_sixteen_that_beat_all_others(self):
        ones = [1 << a for a in range(16)]
        beats = [65535 - one for one in ones]
        self.check(beats, [0] + ones, [0] + ones, [0] + ones, ones, ones, ones, ones)

    def test_a_ring_of_sixteen(self):
        beats = ring(16)
        for kind in (HOLDING, COMPLETE):
            self.assertEqual(found(beats, kind), [0, EVEN, ODD])
        for kind in (FULL, STABLE, FAR):
            self.assertEqual(found(beats, kind), [EVEN, ODD])
        # As many as Lucas and Perrin count on a ring.
        self.assertEqual(len(found(beats, PEACEFUL)), 2207)
        self.assertEqual(len(found(beats, GREAT)), 90)

    def test_eight_pairs_that_beat_each_other(self):
        beats = [1 << (a ^ 1) for a in range(16)]
        for kind in (PEACEFUL, HOLDING, COMPLETE):
            self.assertEqual(len(found(beats, kind)), 3 ** 8)
        chosen = [s for s in range(65536) if (s ^ s >> 1) & EVEN == EVEN]
        for kind in (FULL, STABLE, FAR, GREAT):
            self.assertEqual(found(beats, kind), chosen)

    def test_all_there_is_of_up_to_three(self):
        for n in range(4):
            for beats in every_beats(n):
                told = Told(beats)
                self.check(beats, *[told.numbers(kind) for kind in KINDS])

    def test_some_of_four_to_seven(self):
        for n, how_many in ((4, 150), (5, 90), (6, 45), (7, 21)):
            for beats in mixed_beats(n, how_many):
                told = Told(beats)
                self.check(beats, *[told.numbers(kind) for kind in KINDS])


class Most(unittest.TestCase):
    def test_the_first_of_them(self):
        for most, shown in ((1, [0]), (2, [0, 1]), (6, [0, 1, 2, 4, 5, 8]), (7, [0, 1, 2, 4, 5, 8, 10])):
            self.assertEqual(ask_last(begin(), put(ring(4)), sets(PEACEFUL, most)), [7] + shown)

    def test_more_than_there_are(self):
        for most in (8, 100, 65535, 65536):
            self.assertEqual(ask_last(begin(), put(ring(4)), sets(PEACEFUL, most)), [7, 0, 1, 2, 4, 5, 8, 10])

    def test_none_outside_1_to_65536(self):
        for most in (0, -1, -2, -7, LOWEST, 65537, HIGHEST):
            self.assertEqual(ask_last(begin(), put(ring(4)), sets(PEACEFUL, most)), [7])
            self.assertEqual(ask_last(begin(), put([0] * 16), sets(PEACEFUL, most)), [65536])

    def test_the_most_there_can_be(self):
        every = list(range(65536))
        self.assertEqual(ask_last(begin(), put([0] * 16), sets(HOLDING, 65536)), [65536] + every)
        self.assertEqual(ask_last(begin(), put([0] * 16), sets(HOLDING, 65535)), [65536] + every[:-1])
        self.assertEqual(ask_last(begin(), put([0] * 16), sets(HOLDING, 1)), [65536, 0])

    def test_a_kind_of_which_there_is_no_set(self):
        for most in (0, 1, 5, 65536, 65537):
            self.assertEqual(ask_last(begin(), put(ring(3)), sets(STABLE, most)), [0])

    def test_fewer_asked_first_and_all_behind_it(self):
        found_behind = ask_last(begin(), put(ring(4)), sets(PEACEFUL, 2), sets(PEACEFUL, 7))
        self.assertEqual(found_behind, [7, 0, 1, 2, 4, 5, 8, 10])


class Refused(unittest.TestCase):
    def test_a_kind_that_is_none(self):
        for beats in ([], [0], ring(4)):
            for kind in (-1, -7, 7, 8, LOWEST, HIGHEST):
                for most in (-1, 0, 1, 65536):
                    self.assertEqual(ask_last(begin(), put(beats), sets(kind, most)), [-1])
