"""What follows from who beats whom.

Everywhere, beats is a list with one number for each argument: the set of those that it beats.
A set is a number whose bits say which arguments are in it.
"""


def beaters_of_each(beats):
    """For each argument the set of those that beat it."""
    return [beaters_of(beats, a) for a in range(len(beats))]


def beaters_of(beats, a):
    return sum([1 << b for b in range(len(beats)) if beats[b] >> a & 1])


def beaten_by(beats, members):
    """The set of all that the set members beats."""
    beaten = 0
    for a in range(len(beats)):
        if members >> a & 1:
            beaten = beaten | beats[a]
    return beaten


def shielded_by(beats, members):
    """The set of all that the set members shields."""
    beaten = beaten_by(beats, members)
    beaters = beaters_of_each(beats)
    return sum([1 << a for a in range(len(beats)) if not beaters[a] & ~beaten])


def rounds(beats):
    """The sets of the rounds from 0 to the one whose number is that of all arguments."""
    found = [0]
    for step in range(len(beats)):
        found.append(shielded_by(beats, found[step]))
    return found
