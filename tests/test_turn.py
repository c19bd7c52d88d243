"""Promise 3: turn."""

import unittest

from tests.helper import (
    ask, ask_last, begin, every_beats, ground, look, put, ring, sets, turn, HIGHEST, KINDS, LOWEST, PEACEFUL)


def turned(beats, a, b, on):
    copy = list(beats)
    copy[a] = copy[a] | 1 << b if on else copy[a] & ~(1 << b)
    return copy


class Turn(unittest.TestCase):
    def test_on_is_whatever_is_not_0(self):
        for on in (1, 2, 7, -1, LOWEST, HIGHEST):
            self.assertEqual(ask(begin(), put([0, 0]), turn(0, 1, on), ground()), [[0], [0], [0], [0, 1]])

    def test_off_is_0(self):
        self.assertEqual(ask(begin(), put([2, 0]), turn(0, 1, 0), ground()), [[0], [0], [0], [0, 3]])

    def test_a_beats_b_and_not_b_a(self):
        self.assertEqual(ask_last(begin(), put([0, 0, 0]), turn(2, 1, 1), ground()), [0, 0b101])

    def test_one_that_beats_itself(self):
        found = ask(begin(), put([0, 0]), turn(1, 1, 1), sets(PEACEFUL), turn(1, 1, 0), sets(PEACEFUL))
        self.assertEqual(found[2:], [[0], [2, 0, 1], [0], [4, 0, 1, 2, 3]])

    def test_every_turn_leaves_all_else_as_it_was(self):
        for n in (1, 2):
            for beats in every_beats(n):
                for a in range(n):
                    for b in range(n):
                        for on in (0, 1, -5):
                            # The look ahead of it must not be answered behind it.
                            found = ask(begin(), put(beats), *look(), turn(a, b, on), *look())[-len(look()):]
                            self.assertEqual(found, ask(begin(), put(turned(beats, a, b, on)), *look())[2:])

    def test_on_what_is_on_and_off_what_is_off(self):
        for beats in (ring(3), ring(4), [6, 1, 4]):
            before = ask(begin(), put(beats), *look())[2:]
            for a in range(len(beats)):
                for b in range(len(beats)):
                    found = ask(begin(), put(beats), turn(a, b, beats[a] >> b & 1), *look())
                    self.assertEqual(found[2:], [[0]] + before)

    def test_on_and_off_again(self):
        found = ask_last(begin(), put([0] * 16), turn(15, 0, 3), turn(15, 0, 0), ground())
        self.assertEqual(found, [0, 65535])

    def test_the_last_of_sixteen(self):
        self.assertEqual(ask_last(begin(), put([0] * 16), turn(15, 0, 1), ground()), [0, 65534])
        self.assertEqual(ask_last(begin(), put([0] * 16), turn(0, 15, 1), ground()), [0, 32767])

    def test_no_a_or_no_b_is_refused_and_all_is_as_it_was(self):
        for beats in ([], [0], [1], [2, 1], ring(3)):
            n = len(beats)
            before = ask(begin(), put(beats), *look())[2:]
            for bad in (-1, -n, n, n + 1, 16, LOWEST, HIGHEST):
                if 0 <= bad < n:
                    continue
                for a, b in ((bad, 0), (0, bad), (bad, n - 1), (n - 1, bad), (bad, bad)):
                    for on in (0, 1):
                        found = ask(begin(), put(beats), turn(a, b, on), *look())
                        self.assertEqual(found[2:], [[-1]] + before)

    def test_there_are_no_arguments_at_all(self):
        for on in (0, 1, -1):
            self.assertEqual(ask(begin(), turn(0, 0, on), sets(PEACEFUL)), [[0], [-1], [1, 0]])

    def test_the_kinds_follow_each_turn(self):
        for kind in KINDS:
            found = ask(begin(), put([0, 0]), sets(kind), turn(0, 1, 1), sets(kind), turn(1, 0, 1), sets(kind))
            for place, beats in ((2, [0, 0]), (4, [2, 0]), (6, [2, 1])):
                self.assertEqual(found[place], ask_last(begin(), put(beats), sets(kind)))
