"""Promise 1: begin."""

import unittest

from tests.helper import ask, begin, ground, is_set, put, ring, sets, turn, ask_last, KINDS, PEACEFUL


class Begin(unittest.TestCase):
    def test_it_answers_0(self):
        self.assertEqual(ask(begin()), [[0]])

    def test_there_are_no_arguments(self):
        self.assertEqual(ask_last(begin(), turn(0, 0, 1)), [-1])
        self.assertEqual(ask_last(begin(), is_set(PEACEFUL, 1)), [-1])
        self.assertEqual(ask_last(begin(), ground()), [0, 0])

    def test_again_it_leaves_no_arguments(self):
        for beats in ([0], [0, 0, 0], [1], ring(4), [0] * 16):
            for kind in KINDS:
                # What was found of the kind before must not be answered behind it.
                found = ask(begin(), put(beats), sets(kind), begin(), sets(kind), is_set(kind, 0))
                self.assertEqual(found[3:], [[0], [1, 0], [1]])
            self.assertEqual(ask_last(begin(), put(beats), begin(), is_set(PEACEFUL, 1)), [-1])
            self.assertEqual(ask_last(begin(), put(beats), begin(), turn(0, 0, 1)), [-1])
            self.assertEqual(ask_last(begin(), put(beats), ground(), begin(), ground()), [0, 0])

    def test_several_in_a_row(self):
        self.assertEqual(ask(begin(), begin(), begin()), [[0], [0], [0]])
