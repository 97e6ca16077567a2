"""Which ties all, some or none of the pairings have, and what part of the pairings has each."""

from sootring.coal import check_number
from sootring.listing import pairings
from sootring.pairing import check_paired, pairing_among


def tallies(coal, found):
    """For each tie how many of the found pairings have it."""
    many = {}
    for tie in coal.ties():
        many[tie] = 0
    for pairing in found:
        for tie in pairing:
            many[tie] = many[tie] + 1
    return [many[tie] for tie in coal.ties()]


def lowest_terms(top, bottom):
    """The fraction as a tuple of two numbers that no number above 1 divides both."""
    one = top
    other = bottom
    while one != 0:
        rest = other % one
        other = one
        one = rest
    return (top // other, bottom // other)


def shares(coal):
    """For each tie the part of all pairings that have it, as a fraction in lowest terms."""
    check_paired(coal)
    found = pairings(coal)
    return [lowest_terms(many, len(found)) for many in tallies(coal, found)]


def kind_of(share):
    """The kind of a tie that has this share."""
    if share == (0, 1):
        return "none"
    if share == (1, 1):
        return "all"
    return "some"


def kinds(coal):
    """For each tie "all", "some" or "none", as so many of the pairings have it."""
    return [kind_of(share) for share in shares(coal)]


def tie_at(coal, number):
    """The tie of this number, of a coal that has a pairing; what is not due is refused."""
    check_paired(coal)
    ties = coal.ties()
    check_number(number, len(ties))
    return ties[number]


def are_apart(one, other):
    """Whether two ties have no point in common."""
    return one[0] not in other and one[1] not in other


def having(coal, tie):
    """A pairing that has the tie of this number, or None."""
    chosen = tie_at(coal, tie)
    return pairing_among(coal, [other for other in coal.ties() if other == chosen or are_apart(other, chosen)])


def lacking(coal, tie):
    """A pairing that has not the tie of this number, or None."""
    chosen = tie_at(coal, tie)
    return pairing_among(coal, [other for other in coal.ties() if other != chosen])
