"""Promise 11: cut."""

import unittest

from tests.helper import (
    answer, ask, ask_last, beats_of, begin, chain, cut, every_beats, ground, ideal, is_set, look, mixed_beats, put,
    ring, round_of, sets, status, turn, Told, BIT_31, COMPLETE, FULL, GREAT, PEACEFUL, STABLE)


class Cut(unittest.TestCase):
    def check(self, beats, s, rest, beats_behind):
        """It answers how many the rest are, and behind it each call tells of beats_behind."""
        # The look ahead of it must not be answered behind it.
        found = ask(begin(), put(beats), *look(), cut(s), *look())[2 + len(look()):]
        wanted = ask(begin(), put(beats_behind), *look())[2:]
        self.assertEqual(found, [[rest]] + wanted, (beats, s))

    def check_told(self, beats, s):
        self.check(beats, s, *Told(beats).cut(s))

    def test_those_it_has_and_those_it_beats(self):
        self.check(chain(4), 0b0001, 2, beats_of(4, [(0, 0), (1, 1), (2, 3)]))
        self.check(chain(5), 0b00010, 3, beats_of(5, [(1, 1), (2, 2), (3, 4)]))

    def test_nobody_of_the_rest_beats_them(self):
        self.check(beats_of(4, [(2, 0), (2, 1), (2, 3), (0, 1)]), 0b0001, 2, beats_of(4, [(0, 0), (1, 1), (2, 3)]))

    def test_they_beat_nobody_of_the_rest(self):
        self.check(beats_of(4, [(0, 1), (1, 2), (1, 3)]), 0b0001, 2, beats_of(4, [(0, 0), (1, 1)]))

    def test_what_the_beaten_ones_beat_is_of_the_rest(self):
        self.check(ring(5), 0b00001, 3, beats_of(5, [(0, 0), (1, 1), (2, 3), (3, 4)]))

    def test_the_rest_is_as_it_was(self):
        rest = [(2, 2), (2, 3), (3, 4), (4, 3), (4, 2)]
        self.check(beats_of(5, [(0, 1)] + rest), 0b00001, 3, beats_of(5, [(0, 0), (1, 1)] + rest))

    def test_the_empty_set(self):
        for beats in ([], [0], [1], ring(3), ring(4), [0, 5, 1]):
            self.check(beats, 0, len(beats), beats)
        self.assertEqual(ask_last(begin(), put([0] * 16), cut(0)), [16])

    def test_all_arguments(self):
        for beats in ([0], [1], ring(3), ring(4), [0, 5, 1]):
            n = len(beats)
            self.check(beats, (1 << n) - 1, 0, [1 << a for a in range(n)])
        self.assertEqual(ask(begin(), put([0] * 16), cut(65535), sets(PEACEFUL))[2:], [[0], [1, 0]])

    def test_a_set_that_beats_one_of_its_own(self):
        self.check(chain(4), 0b0011, 1, beats_of(4, [(0, 0), (1, 1), (2, 2)]))
        self.check(ring(4), 0b0011, 1, [1, 2, 4, 0])
        self.check(beats_of(3, [(0, 0), (1, 0), (1, 2)]), 0b001, 2, beats_of(3, [(0, 0), (1, 2)]))

    def test_a_set_at_peace(self):
        self.check(chain(6), 0b000101, 2, beats_of(6, [(0, 0), (1, 1), (2, 2), (3, 3), (4, 5)]))
        self.check([0, 0, 0], 0b010, 2, [0, 2, 0])

    def test_one_of_sixteen(self):
        found = ask(begin(), put([0] * 16), cut(32768), ground(), is_set(GREAT, 32767))
        self.assertEqual(found[2:], [[15], [0, 32767], [1]])
        self.assertEqual(ask_last(begin(), put([65535] + [0] * 15), cut(1)), [0])
        self.assertEqual(ask_last(begin(), put([65534] + [0] * 15), cut(2)), [15])

    def test_what_each_call_tells_behind_it(self):
        found = ask(
            begin(), put(chain(5)), cut(0b00001), sets(PEACEFUL), sets(COMPLETE), sets(STABLE), is_set(FULL, 0b10100),
            ground(), ideal(), round_of(0), round_of(1), round_of(2), round_of(3), round_of(4), answer(1), answer(3),
            status(FULL, 0), status(FULL, 2), status(STABLE, 2))
        self.assertEqual(found[2:], [
            [3], [5, 0, 4, 8, 16, 20], [1, 20], [0], [1],
            [0, 20], [0, 20], [0], [0], [1], [2], [3], [-2], [2],
            [0], [3], [2]])

    def test_twice(self):
        found = ask(begin(), put(chain(6)), cut(0b000001), cut(0b000100), ground(), sets(PEACEFUL))
        self.assertEqual(found[2:], [[4], [4], [0, 0b010000], [3, 0, 16, 32]])

    def test_twice_the_same(self):
        # Those that were cut beat themselves alone, so all others are the rest again.
        for beats in (chain(4), ring(4), [0, 5, 1]):
            for s in range(1 << len(beats)):
                rest, behind = Told(beats).cut(s)
                again, behind_that = Told(behind).cut(s)
                found = ask(begin(), put(beats), cut(s), cut(s), *look())[2:]
                self.assertEqual(found, [[rest], [again]] + ask(begin(), put(behind_that), *look())[2:])

    def test_those_that_were_cut_can_be_turned(self):
        found = ask(begin(), put(chain(3)), cut(1), ground(), turn(0, 0, 0), ground(), turn(0, 2, 1), ground())
        self.assertEqual(found[2::2], [[1], [0], [0]])
        self.assertEqual(found[3::2], [[0, 0b100], [0, 0b101], [0, 0b001]])

    def test_all_there_is_of_up_to_two(self):
        for n in range(3):
            for beats in every_beats(n):
                for s in range(1 << n):
                    self.check_told(beats, s)

    def test_some_of_three_to_six(self):
        for n, how_many in ((3, 30), (4, 15), (5, 9), (6, 6)):
            for beats in mixed_beats(n, how_many):
                for s in (1, 1 << n - 1, 3, 5, (1 << n) - 2):
                    self.check_told(beats, s)


class Refused(unittest.TestCase):
    def check(self, beats, s):
        found = ask(begin(), put(beats), cut(s), *look())
        self.assertEqual(found[2:], [[-1]] + ask(begin(), put(beats), *look())[2:], (beats, s))

    def test_a_bit_that_is_no_arguments(self):
        for beats in ([0], [1], chain(3), ring(4)):
            n = len(beats)
            for s in (1 << n, 1 << n + 1, 1 << n | 1, 1 << 16, BIT_31, BIT_31 | 1, (1 << 32) - 1):
                self.check(beats, s)

    def test_the_first_bit_too_high(self):
        for n in (1, 2, 15, 16):
            found = ask(begin(), put([0] * n), cut(1 << n), cut(BIT_31), ground(), cut(1 << n - 1))
            self.assertEqual(found[2:], [[-1], [-1], [0, (1 << n) - 1], [n - 1]])

    def test_no_arguments(self):
        self.assertEqual(ask(begin(), cut(0)), [[0], [0]])
        for s in (1, 2, BIT_31, (1 << 32) - 1):
            self.assertEqual(ask(begin(), cut(s)), [[0], [-1]])
            self.check([], s)
