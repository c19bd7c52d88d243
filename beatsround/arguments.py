"""The arguments, and the calls on them: each gives back the list of the numbers that are answered."""

from beatsround.beating import beaten_by
from beatsround.beating import beaters_of
from beatsround.beating import cut_to
from beatsround.beating import first_with
from beatsround.beating import least_of
from beatsround.beating import left_by
from beatsround.beating import rounds
from beatsround.kinds import FULL
from beatsround.kinds import greatest_within
from beatsround.kinds import HOLDING
from beatsround.kinds import is_kind
from beatsround.kinds import sets_of_kind

MOST_ARGUMENTS = 16
MOST_SETS = 65536
DONE = 0
REFUSED = -1
NONE_SUCH = -2


class Arguments:
    def __init__(self):
        self.beats = []
        self.found = {}

    def begin(self):
        self.become([])
        return [DONE]

    def put(self, beats):
        """The call set."""
        if len(beats) > MOST_ARGUMENTS or any([number >> len(beats) for number in beats]):
            return [REFUSED]
        self.become(list(beats))
        return [DONE]

    def turn(self, a, b, on):
        if not self.has(a) or not self.has(b):
            return [REFUSED]
        beats = list(self.beats)
        beats[a] = beats[a] & ~(1 << b)
        if on != 0:
            beats[a] = beats[a] | 1 << b
        self.become(beats)
        return [DONE]

    def sets(self, kind, most):
        if not is_kind(kind):
            return [REFUSED]
        found = self.of_kind(kind)
        shown = most if 1 <= most <= MOST_SETS else 0
        return [len(found)] + found[:shown]

    def is_of_kind(self, kind, members):
        """The call is."""
        if not is_kind(kind) or not self.has_all(members):
            return [REFUSED]
        return [1 if members in self.of_kind(kind) else 0]

    def ground(self):
        return [DONE, rounds(self.beats)[-1]]

    def ideal(self):
        return [DONE, greatest_within(self.of_kind(HOLDING), self.of_kind(FULL))]

    def round_of(self, a):
        """The call round."""
        if not self.has(a):
            return [REFUSED]
        found = rounds(self.beats)
        entered = first_with(found, a)
        if entered is not None:
            return [2 * entered - 1]
        beaten = first_with([beaten_by(self.beats, members) for members in found], a)
        return [0 if beaten is None else 2 * beaten]

    def answer_to(self, b):
        """The call answer."""
        if not self.has(b):
            return [REFUSED]
        beaters = beaters_of(self.beats, b)
        # Each round has all of the one before, so none of the first that are met was in by an earlier one.
        for members in rounds(self.beats):
            if members & beaters:
                return [least_of(members & beaters)]
        return [NONE_SUCH]

    def status(self, kind, a):
        if not is_kind(kind) or not self.has(a):
            return [REFUSED]
        found = self.of_kind(kind)
        having = sum([members >> a & 1 for members in found])
        return [(1 if having > 0 else 0) + (2 if having == len(found) else 0)]

    def cut(self, members):
        if not self.has_all(members):
            return [REFUSED]
        left = left_by(self.beats, members)
        self.become(cut_to(self.beats, left))
        return [sum([left >> a & 1 for a in range(len(self.beats))])]

    def has(self, a):
        return 0 <= a < len(self.beats)

    def has_all(self, members):
        return not members >> len(self.beats)

    def become(self, beats):
        self.beats = beats
        self.found = {}

    def of_kind(self, kind):
        # To find all sets of a kind takes long: they are kept until who beats whom changes.
        if kind not in self.found:
            self.found[kind] = sets_of_kind(self.beats, kind)
        return self.found[kind]
