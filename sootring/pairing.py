"""Pairings of the points of a coal, or points that show why there are none."""

from sootring.cells import is_pair
from sootring.coal import neighbours_by, numbered
from sootring.errors import NoPairing, Unpaired


def is_pairing(coal, thing):
    """Whether any thing is a pairing of the coal."""
    if not isinstance(thing, list) or not all([is_pair(part) for part in thing]):
        return False
    numbers = numbered(coal.ties())
    if not all([tie in numbers for tie in thing]) or thing != sorted(thing):
        return False
    points = [tie[0] for tie in thing] + [tie[1] for tie in thing]
    return sorted(points) == list(range(len(coal.points())))


def check_pairing(coal, thing):
    """Refuse any thing that is no pairing of the coal."""
    if not is_pairing(coal, thing):
        raise NoPairing("this is no pairing of the coal")


def search(near, mates, start):
    """Look for a point without a mate, from one of the other colour without one, along ties that may be changed.

    Told are this point or None, a dict that has for each point looked at the one whence it was seen,
    and the list of the points of the start's colour that were come to.
    """
    seen_from = {}
    reached = [start]
    waiting = [start]
    while waiting:
        here = waiting.pop()
        for there in near[here]:
            if there in seen_from:
                continue
            seen_from[there] = here
            if there not in mates:
                return (there, seen_from, reached)
            reached.append(mates[there])
            waiting.append(mates[there])
    return (None, seen_from, reached)


def pair_back(mates, seen_from, end):
    """Change the mates along the way that was found, from its end back to its start, so that both get one."""
    there = end
    while there is not None:
        here = seen_from[there]
        further = mates.get(here)
        mates[here] = there
        mates[there] = here
        there = further


def pair_up(near):
    """Pair all points by the neighbours that each has.

    Told is a tuple of the mates, a dict, and of None, or of None and of points of one colour, rising, that
    have together fewer neighbours than they are.
    """
    mates = {}
    for start in range(len(near)):
        if start not in mates:
            found = search(near, mates, start)
            if found[0] is None:
                # All their neighbours have mates, and these are all reached, but the start has none.
                return (None, sorted(found[2]))
            pair_back(mates, found[1], found[0])
    return (mates, None)


def ties_of(mates):
    """The pairing that the mates of all points tell."""
    return [(point, mates[point]) for point in sorted(mates) if point < mates[point]]


def paired(coal):
    """The tuple ("paired", a pairing), or ("short", points that have together fewer neighbours than they are)."""
    found = pair_up([coal.near(point) for point in range(len(coal.points()))])
    if found[0] is None:
        return ("short", found[1])
    return ("paired", ties_of(found[0]))


def check_paired(coal):
    """Refuse a coal that has no pairing."""
    if paired(coal)[0] == "short":
        raise Unpaired("the coal has no pairing")


def pairing_among(coal, ties):
    """A pairing that has ties of this list alone, or None."""
    found = pair_up(neighbours_by(ties, len(coal.points())))
    if found[0] is None:
        return None
    return ties_of(found[0])
