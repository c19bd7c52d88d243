"""All calls together: each tells of the arguments as they are now."""

import unittest

from beatsround.desk import answers

from tests.helper import (
    answer, ask, beats_of, begin, chain, cut, ground, ideal, is_set, look_at, put, ring, round_of, sets, status,
    turn, Told, KINDS)

TELLING = (
    [sets(kind) for kind in KINDS] + [is_set(kind, s) for kind in KINDS for s in (0, 1, 5)]
    + [ground(), ideal()] + look_at(range(3)))
CHANGES = ([], [0], [1], chain(3), ring(3), ring(4), [2, 1, 3], beats_of(4, [(0, 1), (1, 0), (2, 2), (1, 3)]))

# Begin and cut leave little to tell of, so they come less often.
HOW_OFTEN = (0, 1, 1, 1, 1, 10, 10) + (2, 3, 4, 5, 6, 7, 8, 9) * 4


class Line:
    """One line of calls, answered by the slow telling."""

    def __init__(self):
        self.told = Told([])
        self.beats = []

    def become(self, beats):
        self.told = Told(beats)
        self.beats = beats

    def has(self, a):
        return 0 <= a < len(self.beats)

    def has_all(self, s):
        return s < 1 << len(self.beats)

    def answer(self, call):
        number, *given = call
        by_number = [
            self.begin, self.put, self.turn, self.sets, self.is_set, self.ground, self.ideal, self.round_of,
            self.answer_to, self.status, self.cut]
        return by_number[number](*given)

    def begin(self):
        self.become([])
        return [0]

    def put(self, n, *beats):
        if any(number >= 1 << n for number in beats):
            return [-1]
        self.become(list(beats))
        return [0]

    def turn(self, a, b, on):
        if not self.has(a) or not self.has(b):
            return [-1]
        kept = [pair for pair in self.told.beats if pair != (a, b)]
        self.become(beats_of(len(self.beats), kept + ([(a, b)] if on else [])))
        return [0]

    def sets(self, kind, most):
        if kind not in KINDS:
            return [-1]
        found = self.told.numbers(kind)
        return [len(found)] + (found[:most] if most in range(1, 65537) else [])

    def is_set(self, kind, s):
        if kind not in KINDS or not self.has_all(s):
            return [-1]
        return [1 if s in self.told.numbers(kind) else 0]

    def ground(self):
        return [0, self.told.ground()]

    def ideal(self):
        return [0, self.told.ideal()]

    def round_of(self, a):
        return [self.told.round_of(a) if self.has(a) else -1]

    def answer_to(self, b):
        return [self.told.answer(b) if self.has(b) else -1]

    def status(self, kind, a):
        return [self.told.status(kind, a) if kind in KINDS and self.has(a) else -1]

    def cut(self, s):
        if not self.has_all(s):
            return [-1]
        rest, behind = self.told.cut(s)
        self.become(behind)
        return [rest]


class Draw:
    """Numbers that look mixed and are the same each time."""

    def __init__(self, state):
        self.state = state

    def below(self, limit):
        self.state = (self.state * 6364136223846793005 + 1442695040888963407) % (1 << 64)
        return (self.state >> 33) % limit

    def one(self):
        """Which argument; now and then there is none such."""
        return (-1, 0, 0, 1, 1, 2, 2, 3, 3, 4, 5)[self.below(11)]

    def some(self, n):
        return self.below(1 << n) & self.below(1 << n)

    def call(self):
        kind = self.below(9) - 1
        n = (0, 1, 3, 4, 4, 5, 5, 5)[self.below(8)]
        by_number = [
            begin,
            lambda: put([self.some(n + self.below(40) // 39) for a in range(n)]),
            lambda: turn(self.one(), self.one(), self.below(3) - 1),
            lambda: sets(kind, self.below(6)),
            lambda: is_set(kind, self.some(4)),
            ground,
            ideal,
            lambda: round_of(self.one()),
            lambda: answer(self.one()),
            lambda: status(kind, self.one()),
            lambda: cut(self.some(4)),
        ]
        return by_number[HOW_OFTEN[self.below(len(HOW_OFTEN))]]()

    def line(self):
        """As many calls as there may be."""
        return [begin()] + [self.call() for step in range(199)]


class Whole(unittest.TestCase):
    def test_lines_of_two_hundred_mixed_calls(self):
        used = set()
        for state in range(40):
            calls = Draw(state).line()
            used.update(call[0] for call in calls)
            line = Line()
            wanted = [line.answer(call) for call in calls]
            self.assertEqual(ask(*calls), wanted)
        self.assertEqual(used, set(range(11)))

    def test_the_list_handed_in_is_the_same_behind_it(self):
        for state in range(10):
            calls = [number for call in Draw(state).line() for number in call]
            copy = list(calls)
            first = answers(calls)
            self.assertEqual(calls, copy)
            self.assertEqual(answers(calls), first)
            self.assertEqual(calls, copy)

    def test_the_second_use_is_as_if_for_the_first_time(self):
        for tell in TELLING:
            alone = answers(begin() + tell)
            answers(begin() + put(ring(4)) + tell)
            self.assertEqual(answers(begin() + tell), alone)

    def check_change(self, beats, change, behind):
        for tell in TELLING:
            found = ask(begin(), put(beats), tell, change, tell)
            self.assertEqual(found[4:], ask(begin(), put(behind), tell)[2:], (beats, change, tell))

    def test_turn_ahead_of_each_call(self):
        for beats in CHANGES[1:]:
            n = len(beats)
            for a, b in ((0, 0), (0, n - 1), (n - 1, 0)):
                for on in (0, 1):
                    line = Line()
                    line.become(beats)
                    line.turn(a, b, on)
                    self.check_change(beats, turn(a, b, on), line.beats)

    def test_set_ahead_of_each_call(self):
        for beats in CHANGES:
            for behind in CHANGES:
                self.check_change(beats, put(behind), behind)

    def test_cut_ahead_of_each_call(self):
        for beats in CHANGES:
            for s in {0, 1, 2, 5, 6} & set(range(1 << len(beats))):
                self.check_change(beats, cut(s), Told(beats).cut(s)[1])

    def test_begin_in_the_middle(self):
        for beats in CHANGES:
            self.check_change(beats, begin(), [])
