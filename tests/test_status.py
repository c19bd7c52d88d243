"""Promise 10: status."""

import unittest

from tests.helper import (
    ask, ask_last, beats_of, begin, chain, cut, every_beats, look, mixed_beats, put, ring, sets, status, turn, Told,
    COMPLETE, FAR, FULL, GREAT, HIGHEST, HOLDING, KINDS, LOWEST, PEACEFUL, STABLE)

BAD_KINDS = (-1, -2, -7, 7, 8, LOWEST, HIGHEST)


class Status(unittest.TestCase):
    def check(self, beats, kind, *wanted):
        found = ask(begin(), put(beats), *[status(kind, a) for a in range(len(beats))])
        self.assertEqual(found[2:], [[number] for number in wanted], (beats, kind))

    def test_some_and_none_where_the_empty_set_is_of_the_kind(self):
        # The empty set is at peace and holds, so of these kinds nobody is in all sets.
        beats = beats_of(3, [(0, 1), (2, 2)])
        self.check(beats, PEACEFUL, 1, 1, 0)
        self.check(beats, HOLDING, 1, 0, 0)

    def test_some_all_and_none(self):
        beats = beats_of(4, [(0, 1), (1, 0), (2, 3)])
        for kind in (COMPLETE, FULL, STABLE, FAR):
            self.check(beats, kind, 1, 1, 3, 0)
        self.check(beats_of(4, [(0, 1), (1, 0), (3, 3)]), GREAT, 1, 1, 3, 0)
        self.check(beats, GREAT, 1, 1, 1, 1)

    def test_the_kinds_differ(self):
        # The full sets are those of 0 and of 1, the far one that of 1 alone, and none is stable.
        beats = beats_of(4, [(0, 1), (1, 0), (1, 2), (2, 2), (3, 3)])
        for kind in (PEACEFUL, HOLDING, COMPLETE, FULL, GREAT):
            self.check(beats, kind, 1, 1, 0, 0)
        self.check(beats, FAR, 0, 3, 0, 0)
        self.check(beats, STABLE, 2, 2, 2, 2)

    def test_just_one_set_of_the_kind(self):
        for kind in (COMPLETE, FULL, STABLE, FAR):
            self.check(chain(5), kind, 3, 0, 3, 0, 3)
        for kind in (COMPLETE, FULL, STABLE, FAR, GREAT):
            self.check([0] * 16, kind, *[3] * 16)
            self.check(beats_of(2, [(0, 0), (1, 0)]), kind, 0, 3)

    def test_the_only_set_is_empty(self):
        self.check([1], PEACEFUL, 0)
        for kind in (HOLDING, COMPLETE, FULL, FAR):
            self.check(ring(3), kind, 0, 0, 0)

    def test_no_set_of_the_kind(self):
        self.check([1], STABLE, 2)
        self.check(ring(3), STABLE, 2, 2, 2)
        self.check(beats_of(3, [(0, 1), (2, 2)]), STABLE, 2, 2, 2)
        self.check([65535] * 16, STABLE, *[2] * 16)

    def test_the_most_sets_there_can_be(self):
        for kind in (PEACEFUL, HOLDING):
            self.check([0] * 16, kind, *[1] * 16)

    def test_in_all_but_one(self):
        self.check(beats_of(3, [(2, 0), (2, 1), (0, 2), (1, 2)]), FULL, 1, 1, 1)
        self.check(beats_of(4, [(3, 0), (0, 3), (1, 2), (2, 1)]), FULL, 1, 1, 1, 1)

    def test_it_follows_each_change(self):
        for kind in (COMPLETE, FULL, FAR):
            found = ask(
                begin(), put(chain(2)), status(kind, 1), turn(0, 1, 0), status(kind, 1), turn(1, 1, 1),
                status(kind, 0), cut(1), status(kind, 0), put([2, 1]), status(kind, 0), begin(), status(kind, 0))
            self.assertEqual(found[2::2], [[0], [3], [3], [0], [1], [-1]])

    def test_beside_the_sets_of_the_kind(self):
        found = ask(begin(), put(ring(4)), sets(FULL, 1), status(FULL, 1), sets(FULL))
        self.assertEqual(found[2:], [[2, 5], [1], [2, 5, 10]])

    def test_all_there_is_of_up_to_three(self):
        for n in range(4):
            for beats in every_beats(n):
                told = Told(beats)
                for kind in KINDS:
                    self.check(beats, kind, *[told.status(kind, a) for a in range(n)])

    def test_some_of_four_to_six(self):
        for n, how_many in ((4, 150), (5, 90), (6, 45)):
            for beats in mixed_beats(n, how_many):
                told = Told(beats)
                for kind in KINDS:
                    self.check(beats, kind, *[told.status(kind, a) for a in range(n)])


class Refused(unittest.TestCase):
    def test_a_kind_that_is_none(self):
        for beats in ([], [0], ring(4), [0] * 16):
            for kind in BAD_KINDS:
                for a in (0, len(beats) - 1):
                    self.assertEqual(ask_last(begin(), put(beats), status(kind, a)), [-1])

    def test_no_a(self):
        for beats in ([], [0], [1], ring(3), [0] * 16):
            n = len(beats)
            for kind in KINDS:
                for a in (-1, -2, -16, n, n + 1, 16, 31, 32, LOWEST, HIGHEST):
                    self.assertEqual(ask_last(begin(), put(beats), status(kind, a)), [-1], (beats, kind, a))

    def test_both(self):
        for kind in BAD_KINDS:
            for a in (-1, 2, LOWEST, HIGHEST):
                self.assertEqual(ask_last(begin(), put([0, 0]), status(kind, a)), [-1])

    def test_there_are_no_arguments_at_all(self):
        for kind in (*KINDS, *BAD_KINDS):
            for a in (0, 1, -1, LOWEST, HIGHEST):
                self.assertEqual(ask(begin(), status(kind, a)), [[0], [-1]])

    def test_all_is_as_it_was(self):
        for beats in ([], [1], ring(3), [0, 5, 1]):
            before = ask(begin(), put(beats), *look())[2:]
            for kind, a in ((-1, 0), (7, 0), (FULL, -1), (FULL, len(beats))):
                found = ask(begin(), put(beats), status(kind, a), *look())
                self.assertEqual(found[2:], [[-1]] + before)
