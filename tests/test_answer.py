"""Promise 9: answer."""

import unittest

from tests.helper import (
    answer, ask, ask_last, beats_of, begin, chain, cut, every_beats, ground, mixed_beats, put, ring, turn, Told,
    HIGHEST, LOWEST)


class Answer(unittest.TestCase):
    def check(self, beats, *wanted):
        found = ask(begin(), put(beats), *[answer(b) for b in range(len(beats))])
        self.assertEqual(found[2:], [[number] for number in wanted], beats)

    def test_along_a_chain(self):
        self.check(chain(2), -2, 0)
        self.check(chain(6), -2, 0, -2, 2, -2, 4)
        self.check(beats_of(4, [(3, 2), (2, 1), (1, 0)]), 1, -2, 3, -2)
        self.assertEqual(ask_last(begin(), put(chain(16)), answer(15)), [14])
        self.assertEqual(ask_last(begin(), put([0] * 15 + [1]), answer(0)), [15])

    def test_of_one_round_the_least(self):
        self.check(beats_of(4, [(0, 3), (1, 3), (2, 3)]), -2, -2, -2, 0)
        self.check(beats_of(4, [(3, 0), (2, 0), (1, 0)]), 1, -2, -2, -2)
        self.check(beats_of(4, [(3, 1), (2, 1)]), -2, 2, -2, -2)
        self.check(beats_of(5, [(0, 1), (1, 2), (1, 3), (2, 4), (3, 4)]), -2, 0, -2, -2, 2)

    def test_the_earliest_round_goes_ahead_of_the_least_number(self):
        # 0 is in by round 2, behind 4, which beats 3.
        later = [(4, 3), (3, 0), (0, 1)]
        self.check(beats_of(6, later), -2, 0, -2, 4, -2, -2)
        self.check(beats_of(6, later + [(5, 1)]), -2, 5, -2, 4, -2, -2)
        self.check(beats_of(6, later + [(5, 1), (4, 1)]), -2, 4, -2, 4, -2, -2)
        self.check(beats_of(6, later + [(5, 1), (4, 1), (2, 1)]), -2, 2, -2, 4, -2, -2)

    def test_a_later_round_against_one_still_later(self):
        # 0 is in by round 3, 1 by round 2.
        beats = beats_of(6, [(2, 3), (3, 1), (1, 4), (4, 0), (0, 5), (1, 5)])
        self.check(beats, -2, -2, -2, 2, 1, 1)

    def test_nobody_beats_it(self):
        self.check([0], -2)
        self.check([0] * 16, *[-2] * 16)

    def test_only_such_beat_it_as_do_not_stand(self):
        self.check([1], -2)
        for n in (2, 3, 4, 16):
            self.check(ring(n), *[-2] * n)
        self.check(beats_of(3, [(0, 1), (1, 0), (0, 2), (1, 2)]), -2, -2, -2)
        self.check(beats_of(2, [(0, 0), (0, 1)]), -2, -2)
        self.check(beats_of(3, [(0, 1), (1, 2)]), -2, 0, -2)

    def test_one_that_does_not_stand_does_not_answer_beside_one_that_does(self):
        self.check(beats_of(3, [(0, 0), (0, 2), (1, 2)]), -2, -2, 1)

    def test_one_that_beats_itself_is_answered_by_another_alone(self):
        self.check(beats_of(2, [(0, 0), (1, 0)]), 1, -2)

    def test_it_follows_each_change(self):
        found = ask(
            begin(), put(chain(3)), answer(1), turn(2, 1, 1), answer(1), turn(0, 1, 0), answer(1),
            turn(1, 2, 0), answer(1), cut(4), answer(1), put([2, 0]), answer(1), begin(), answer(1))
        self.assertEqual(found[2::2], [[0], [0], [-2], [2], [-2], [0], [-1]])

    def test_a_refusal_changes_nothing(self):
        found = ask(begin(), put(chain(3)), answer(0), answer(3), answer(-1), ground(), answer(1))
        self.assertEqual(found[2:], [[-2], [-1], [-1], [0, 0b101], [0]])

    def test_no_b_is_refused(self):
        for beats in ([], [0], [1], ring(4), chain(4), [0] * 16):
            n = len(beats)
            for b in (-1, -2, -16, n, n + 1, 16, 31, 32, LOWEST, HIGHEST):
                self.assertEqual(ask_last(begin(), put(beats), answer(b)), [-1], (beats, b))

    def test_there_are_no_arguments_at_all(self):
        for b in (0, 1, -1, LOWEST, HIGHEST):
            self.assertEqual(ask(begin(), answer(b)), [[0], [-1]])

    def test_all_there_is_of_up_to_three(self):
        for n in range(4):
            for beats in every_beats(n):
                told = Told(beats)
                self.check(beats, *[told.answer(b) for b in range(n)])

    def test_some_of_five_and_eight(self):
        for n in (5, 8):
            for beats in mixed_beats(n, 150):
                told = Told(beats)
                self.check(beats, *[told.answer(b) for b in range(n)])
