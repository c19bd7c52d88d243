"""Promise 6: ground."""

import unittest

from tests.helper import ask, beats_of, begin, chain, every_beats, ground, mixed_beats, put, ring, Told


class Ground(unittest.TestCase):
    def check(self, beats, wanted):
        self.assertEqual(ask(begin(), put(beats), ground()), [[0], [0], [0, wanted]], beats)

    def test_no_arguments(self):
        self.check([], 0)
        self.assertEqual(ask(begin(), ground()), [[0], [0, 0]])

    def test_nobody_beaten(self):
        for n in (1, 2, 7, 16):
            self.check([0] * n, (1 << n) - 1)

    def test_a_chain_takes_several_rounds(self):
        self.check(chain(2), 0b01)
        self.check(chain(3), 0b101)
        self.check(chain(6), 0b010101)
        self.check(chain(16), 0x5555)

    def test_a_chain_against_the_order_of_numbers(self):
        self.check(beats_of(5, [(4, 3), (3, 2), (2, 1), (1, 0)]), 0b10101)

    def test_a_ring_where_nothing_stands(self):
        for n in (1, 2, 3, 4, 15, 16):
            self.check(ring(n), 0)

    def test_one_beaten_by_two_stands_if_both_are_beaten(self):
        self.check(beats_of(4, [(0, 1), (1, 3), (2, 3)]), 0b0101)
        self.check(beats_of(4, [(0, 1), (0, 2), (1, 3), (2, 3)]), 0b1001)

    def test_a_ring_that_is_beaten_from_without(self):
        self.check(beats_of(4, [(0, 1), (1, 2), (2, 0), (3, 0)]), 0b1010)

    def test_one_that_beats_itself_does_not_stand(self):
        self.check(beats_of(3, [(0, 0), (0, 1)]), 0b100)
        self.check(beats_of(3, [(0, 0), (0, 1), (2, 0)]), 0b110)

    def test_all_there_is_of_up_to_three(self):
        for n in range(4):
            for beats in every_beats(n):
                self.check(beats, Told(beats).ground())

    def test_some_of_five_and_eight(self):
        for n in (5, 8):
            for beats in mixed_beats(n, 150):
                self.check(beats, Told(beats).ground())
