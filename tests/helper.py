"""Writes calls, reads answers, and tells the kinds and rounds word by word as the document does."""

from beatsround.desk import answers

LOWEST = -2147483648
HIGHEST = 2147483647
BIT_31 = 1 << 31
ALL_SETS = 65536
KINDS = range(7)
PEACEFUL, HOLDING, COMPLETE, FULL, STABLE, FAR, GREAT = KINDS


def begin():
    return [0]


def put(beats):
    return [1, len(beats), *beats]


def turn(a, b, on):
    return [2, a, b, on]


def sets(kind, most=ALL_SETS):
    return [3, kind, most]


def is_set(kind, s):
    return [4, kind, s]


def ground():
    return [5]


def ideal():
    return [6]


def round_of(a):
    return [7, a]


def answer(b):
    return [8, b]


def status(kind, a):
    return [9, kind, a]


def cut(s):
    return [10, s]


def ask(*calls):
    """The answers to the calls, a list each."""
    written = answers([number for call in calls for number in call])
    found = []
    place = 0
    while place < len(written):
        count = written[place]
        found.append(written[place + 1:place + 1 + count])
        place += 1 + count
    assert place == len(written), written
    assert len(found) == len(calls), written
    return found


def ask_last(*calls):
    return ask(*calls)[-1]


def look():
    """Calls that together show how many arguments there are and what follows from who beats whom."""
    bounds = [is_set(PEACEFUL, 1 << a) for a in range(17)]
    return bounds + [sets(kind) for kind in KINDS] + [ground(), ideal()] + look_at(range(4))


def look_at(some):
    """Calls that tell of each of some arguments."""
    return ([round_of(a) for a in some] + [answer(b) for b in some]
            + [status(kind, a) for kind in KINDS for a in some])


def beats_of(n, pairs):
    beats = [0] * n
    for a, b in pairs:
        beats[a] |= 1 << b
    return beats


def ring(n):
    return beats_of(n, [(a, (a + 1) % n) for a in range(n)])


def chain(n):
    return beats_of(n, [(a, a + 1) for a in range(n - 1)])


def every_beats(n):
    """All there is of who beats whom among n arguments."""
    for code in range(1 << n * n):
        yield [code >> a * n & (1 << n) - 1 for a in range(n)]


def mixed_beats(n, how_many):
    """Some of it, thinner and denser, the same ones each time."""
    state = 12345 + n
    for turn_number in range(how_many):
        thin = turn_number % 3
        beats = []
        for a in range(n):
            row = (1 << n) - 1
            for step in range(thin + 1):
                state = (state * 6364136223846793005 + 1442695040888963407) % (1 << 64)
                row &= state >> 40
            beats.append(row)
        yield beats


class Told:
    """The words of the document over Python's own sets, slowly."""

    def __init__(self, beats):
        self.n = len(beats)
        self.beats = {(a, b) for a in range(self.n) for b in range(self.n) if beats[a] >> b & 1}
        self.all = [self.members(s) for s in range(1 << self.n)]
        self.by_kind = {}

    def members(self, s):
        return frozenset(a for a in range(self.n) if s >> a & 1)

    def number(self, members):
        return sum(1 << a for a in members)

    def beaten(self, members):
        return {b for a, b in self.beats if a in members}

    def shields(self, members, a):
        return all(b in self.beaten(members) for b in range(self.n) if (b, a) in self.beats)

    def shielded(self, members):
        return frozenset(a for a in range(self.n) if self.shields(members, a))

    def reach(self, members):
        return members | self.beaten(members)

    def sets(self, kind):
        if kind not in self.by_kind:
            self.by_kind[kind] = [members for members in self.all if self.is_kind(kind, members)]
        return self.by_kind[kind]

    def is_kind(self, kind, members):
        if kind == COMPLETE:
            return members in self.sets(HOLDING) and self.shielded(members) <= members
        if kind == FULL:
            return members in self.sets(HOLDING) and not any(members < other for other in self.sets(HOLDING))
        if kind == FAR:
            return members in self.sets(COMPLETE) and not any(
                self.reach(members) < self.reach(other) for other in self.sets(COMPLETE))
        peaceful = not any((a, b) in self.beats for a in members for b in members)
        if kind == HOLDING:
            return peaceful and all(self.shields(members, a) for a in members)
        if kind == STABLE:
            return peaceful and all(a in self.beaten(members) for a in range(self.n) if a not in members)
        if kind == GREAT:
            return peaceful and not any(members < other for other in self.sets(PEACEFUL))
        return peaceful

    def numbers(self, kind):
        return [self.number(members) for members in self.sets(kind)]

    def rounds(self):
        found = [frozenset()]
        while len(found) <= self.n:
            found.append(self.shielded(found[-1]))
        return found

    def ground(self):
        return self.number(self.rounds()[self.n])

    def ideal(self):
        within = [members for members in self.sets(HOLDING) if all(members <= other for other in self.sets(FULL))]
        greatest, = [members for members in within if all(other <= members for other in within)]
        return self.number(greatest)

    def round_of(self, a):
        rounds = self.rounds()
        entered = [k for k in range(self.n + 1) if a in rounds[k]]
        if entered:
            return 2 * entered[0] - 1
        beaten = [k for k in range(self.n + 1) if a in self.beaten(rounds[k])]
        return 2 * beaten[0] if beaten else 0

    def answer(self, b):
        rounds = self.rounds()
        such = [(self.round_of(a), a) for a in rounds[self.n] if (a, b) in self.beats]
        return min(such)[1] if such else -2

    def status(self, kind, a):
        found = self.sets(kind)
        some = 1 if any(a in members for members in found) else 0
        return some + (2 if all(a in members for members in found) else 0)

    def cut(self, s):
        """How many the rest are, and who beats whom behind it."""
        out = self.reach(self.members(s))
        kept = [(a, b) for a, b in self.beats if a not in out and b not in out]
        return self.n - len(out), beats_of(self.n, kept + [(a, a) for a in out])
