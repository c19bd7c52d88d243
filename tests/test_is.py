"""Promise 5: is."""

import unittest

from tests.helper import (
    ask, ask_last, beats_of, begin, every_beats, is_set, put, ring, sets, Told,
    BIT_31, COMPLETE, FAR, FULL, GREAT, HIGHEST, HOLDING, KINDS, LOWEST, PEACEFUL, STABLE)


class Is(unittest.TestCase):
    def check(self, beats, kind, s, wanted):
        self.assertEqual(ask(begin(), put(beats), is_set(kind, s)), [[0], [0], [wanted]], (beats, kind, s))

    def test_each_kind(self):
        chain = beats_of(3, [(0, 1), (1, 2)])
        choice = beats_of(4, [(0, 1), (1, 0), (1, 2), (2, 2), (3, 3)])
        self.check(chain, PEACEFUL, 0b100, 1)
        self.check(chain, PEACEFUL, 0b011, 0)
        self.check(chain, HOLDING, 0b001, 1)
        self.check(chain, HOLDING, 0b100, 0)
        self.check(chain, COMPLETE, 0b101, 1)
        self.check(chain, COMPLETE, 0b001, 0)
        self.check(choice, FULL, 0b0001, 1)
        self.check(choice, FULL, 0b0000, 0)
        self.check(chain, STABLE, 0b101, 1)
        self.check(choice, STABLE, 0b0010, 0)
        self.check(choice, FAR, 0b0010, 1)
        self.check(choice, FAR, 0b0001, 0)
        self.check(chain, GREAT, 0b010, 1)
        self.check(chain, GREAT, 0b001, 0)

    def test_the_empty_set(self):
        for kind in KINDS:
            self.check([], kind, 0, 1)
            self.check([0], kind, 0, 1 if kind in (PEACEFUL, HOLDING) else 0)
            self.check([1], kind, 0, 0 if kind == STABLE else 1)
            self.check(ring(3), kind, 0, 0 if kind in (STABLE, GREAT) else 1)

    def test_all_arguments(self):
        for n in (1, 3, 16):
            for kind in KINDS:
                self.check([0] * n, kind, (1 << n) - 1, 1)
                self.check([0] * (n - 1) + [1], kind, (1 << n) - 1, 0)

    def test_all_there_is_of_up_to_three(self):
        for n in range(4):
            for beats in every_beats(n):
                told = Told(beats)
                asked = [(kind, s) for kind in KINDS for s in range(1 << n)]
                wanted = [[1 if s in told.numbers(kind) else 0] for kind, s in asked]
                # Not more than 200 calls at once.
                self.assertEqual(ask(begin(), put(beats), *[is_set(kind, s) for kind, s in asked])[2:], wanted)

    def test_it_answers_as_sets_does(self):
        for kind in KINDS:
            answers = ask(begin(), put(ring(6)), sets(kind), *[is_set(kind, s) for s in range(64)])[2:]
            self.assertEqual(answers[0][1:], [s for s in range(64) if answers[s + 1] == [1]])


class Refused(unittest.TestCase):
    def test_a_kind_that_is_none(self):
        for beats in ([], [0], ring(4)):
            for kind in (-1, -7, 7, 8, LOWEST, HIGHEST):
                self.assertEqual(ask_last(begin(), put(beats), is_set(kind, 0)), [-1])

    def test_a_bit_that_is_no_arguments(self):
        for n in (0, 1, 4, 15, 16):
            for kind in KINDS:
                for s in (1 << n, 1 << n + 1, BIT_31, (1 << 32) - 1, BIT_31 | 1):
                    self.assertEqual(ask_last(begin(), put([0] * n), is_set(kind, s)), [-1])

    def test_both(self):
        for n in (0, 1, 16):
            for kind in (-1, 7):
                for s in (1 << n, BIT_31):
                    self.assertEqual(ask_last(begin(), put([0] * n), is_set(kind, s)), [-1])
