"""The arguments, and the calls on them: each gives back the list of the numbers that are answered."""

from beatsround.beating import rounds
from beatsround.kinds import is_kind
from beatsround.kinds import sets_of_kind

MOST_ARGUMENTS = 16
MOST_SETS = 65536
DONE = 0
REFUSED = -1


class Arguments:
    def __init__(self):
        self.beats = []
        self.found = {}

    def begin(self):
        self.become([])
        return [DONE]

    def put(self, beats):
        """The call set."""
        if len(beats) > MOST_ARGUMENTS or any([number >> len(beats) for number in beats]):
            return [REFUSED]
        self.become(list(beats))
        return [DONE]

    def turn(self, a, b, on):
        if not self.has(a) or not self.has(b):
            return [REFUSED]
        beats = list(self.beats)
        beats[a] = beats[a] & ~(1 << b)
        if on != 0:
            beats[a] = beats[a] | 1 << b
        self.become(beats)
        return [DONE]

    def sets(self, kind, most):
        if not is_kind(kind):
            return [REFUSED]
        found = self.of_kind(kind)
        shown = most if 1 <= most <= MOST_SETS else 0
        return [len(found)] + found[:shown]

    def is_of_kind(self, kind, members):
        """The call is."""
        if not is_kind(kind) or members >> len(self.beats):
            return [REFUSED]
        return [1 if members in self.of_kind(kind) else 0]

    def ground(self):
        return [DONE, rounds(self.beats)[-1]]

    def has(self, a):
        return 0 <= a < len(self.beats)

    def become(self, beats):
        self.beats = beats
        self.found = {}

    def of_kind(self, kind):
        # To find all sets of a kind takes long: they are kept until who beats whom changes.
        if kind not in self.found:
            self.found[kind] = sets_of_kind(self.beats, kind)
        return self.found[kind]
