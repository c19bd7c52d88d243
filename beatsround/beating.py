"""What follows from who beats whom.

Everywhere, beats is a list with one number for each argument: the set of those that it beats.
A set is a number whose bits say which arguments are in it.
"""


def everyone(beats):
    return (1 << len(beats)) - 1


def beaters_of_each(beats):
    """For each argument the set of those that beat it."""
    return [beaters_of(beats, a) for a in range(len(beats))]


def beaters_of(beats, a):
    return sum([1 << b for b in range(len(beats)) if beats[b] >> a & 1])


def beaten_by(beats, members):
    """The set of all that the set members beats."""
    beaten = 0
    for a in range(len(beats)):
        if members >> a & 1:
            beaten = beaten | beats[a]
    return beaten


def shielded_by(beats, members):
    """The set of all that the set members shields."""
    beaten = beaten_by(beats, members)
    beaters = beaters_of_each(beats)
    return sum([1 << a for a in range(len(beats)) if not beaters[a] & ~beaten])


def rounds(beats):
    """The sets of the rounds from 0 to the one whose number is that of all arguments."""
    found = [0]
    for step in range(len(beats)):
        found.append(shielded_by(beats, found[step]))
    return found


def first_with(several, a):
    """The place of the first of the sets that has a, or None."""
    for place, members in enumerate(several):
        if members >> a & 1:
            return place
    return None


def least_of(members):
    return (members & -members).bit_length() - 1


def left_by(beats, members):
    """The set of all that the set members neither has nor beats."""
    return everyone(beats) & ~(members | beaten_by(beats, members))


def cut_to(beats, left):
    """Who beats whom when those in the set left are as before, and every other one beats itself alone."""
    return [beats[a] & left if left >> a & 1 else 1 << a for a in range(len(beats))]
