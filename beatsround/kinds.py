"""The sets of each of the seven kinds, rising.

Here a row is a tuple of three sets: the members of a set, all that they beat, all that beat them.
"""

from beatsround.beating import beaters_of_each
from beatsround.beating import everyone


def peaceful_rows(beats):
    """The rows of the sets at peace, rising."""
    beaters = beaters_of_each(beats)
    rows = [(0, 0, 0)]
    for a in range(len(beats)):
        bit = 1 << a
        # The sets with a as their highest come behind all that lack it, so the rows stay rising.
        if not beats[a] & bit:
            free = [row for row in rows if not (row[1] | row[2]) & bit]
            rows = rows + [(row[0] | bit, row[1] | beats[a], row[2] | beaters[a]) for row in free]
    return rows


def holding_rows(beats):
    return [row for row in peaceful_rows(beats) if not row[2] & ~row[1]]


def complete_rows(beats):
    beaters = beaters_of_each(beats)
    return [row for row in holding_rows(beats) if has_all_it_shields(row, beaters)]


def has_all_it_shields(row, beaters):
    for a in range(len(beaters)):
        if not row[0] >> a & 1 and not beaters[a] & ~row[1]:
            return False
    return True


def reach(row):
    """What the set of the row has or beats."""
    return row[0] | row[1]


def utmost(rising):
    """Those of the rising sets that no greater one of them has all of."""
    kept = []
    # A set that has all of another is the greater number, so whatever could rule one out is kept before it.
    for members in reversed(rising):
        if not is_within_some(members, kept):
            kept.append(members)
    return list(reversed(kept))


def is_within_some(members, others):
    for other in others:
        if not members & ~other:
            return True
    return False


def peaceful(beats):
    return [row[0] for row in peaceful_rows(beats)]


def holding(beats):
    return [row[0] for row in holding_rows(beats)]


def complete(beats):
    return [row[0] for row in complete_rows(beats)]


def full(beats):
    return utmost(holding(beats))


def stable(beats):
    whole = everyone(beats)
    return [row[0] for row in peaceful_rows(beats) if reach(row) == whole]


def far(beats):
    rows = complete_rows(beats)
    farthest = utmost(sorted(set([reach(row) for row in rows])))
    return [row[0] for row in rows if reach(row) in farthest]


def great(beats):
    # Whatever is within a set at peace is at peace too, so it is enough that no single one can be added.
    barred = sum([1 << a for a in range(len(beats)) if beats[a] >> a & 1])
    whole = everyone(beats)
    return [row[0] for row in peaceful_rows(beats) if reach(row) | row[2] | barred == whole]


KINDS = (peaceful, holding, complete, full, stable, far, great)
HOLDING = 1
FULL = 3


def is_kind(kind):
    return 0 <= kind < len(KINDS)


def sets_of_kind(beats, kind):
    return KINDS[kind](beats)


def greatest_within(holding_sets, full_sets):
    """Of the holding sets the greatest that all full ones have."""
    shared = had_by_all(full_sets)
    # The one that has all the others is the greatest number of them, and the empty set is always one of them.
    return max([members for members in holding_sets if not members & ~shared])


def had_by_all(several):
    """The set of those that all of the sets have; there is at least one set."""
    shared = several[0]
    for members in several:
        shared = shared & members
    return shared
