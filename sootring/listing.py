"""All pairings of a coal in order, and their numbers."""

from sootring.cells import is_whole
from sootring.coal import check_number
from sootring.errors import NoNumber
from sootring.pairing import check_pairing


class Choices:
    """The pairings of a coal as a row of choices: the least point that is still free chooses its mate.

    Taken in this order the ties of a pairing come sorted, so choices that are tried in the order of the mates
    lead to the pairings in their order. Free points are kept as one whole number with a bit for each of them.
    """

    def __init__(self, coal):
        self.mates_above = []
        self.known_ways = {}
        for point in range(len(coal.points())):
            self.mates_above.append([other for other in coal.near(point) if other > point])

    def all_free(self):
        """All points, as free ones."""
        return (1 << len(self.mates_above)) - 1

    def branches(self, free):
        """The choices of the least free point, in order: tuples of the tie and of the points then free."""
        least = free & -free
        point = least.bit_length() - 1
        found = []
        for other in self.mates_above[point]:
            bit = 1 << other
            if free & bit:
                found.append(((point, other), free - least - bit))
        return found

    def ways(self, free):
        """In how many ways the free points can be paired."""
        if free == 0:
            return 1
        if free not in self.known_ways:
            self.known_ways[free] = sum([self.ways(branch[1]) for branch in self.branches(free)])
        return self.known_ways[free]


def collect(choices, free, ahead, found):
    """Put all pairings that begin with the ties ahead to the found ones, in order."""
    if free == 0:
        found.append(ahead)
        return
    for branch in choices.branches(free):
        # A branch without a pairing is not walked: there may be far more of these than there are pairings.
        if choices.ways(branch[1]) > 0:
            collect(choices, branch[1], ahead + [branch[0]], found)


def pairings(coal):
    """All pairings, in order."""
    choices = Choices(coal)
    found = []
    collect(choices, choices.all_free(), [], found)
    return found


def how_many(coal):
    """How many pairings there are."""
    choices = Choices(coal)
    return choices.ways(choices.all_free())


def number_of(coal, pairing):
    """The number of a pairing in the order of all."""
    check_pairing(coal, pairing)
    choices = Choices(coal)
    free = choices.all_free()
    number = 0
    for tie in pairing:
        branches = choices.branches(free)
        number = number + sum([choices.ways(branch[1]) for branch in branches if branch[0] < tie])
        free = [branch[1] for branch in branches if branch[0] == tie][0]
    return number


def pairing_at(coal, number):
    """The pairing of this number in the order of all."""
    if not is_whole(number):
        raise NoNumber("this is no whole number")
    choices = Choices(coal)
    free = choices.all_free()
    check_number(number, choices.ways(free))
    behind = number
    found = []
    while free != 0:
        branches = choices.branches(free)
        k = 0
        while behind >= choices.ways(branches[k][1]):
            behind = behind - choices.ways(branches[k][1])
            k = k + 1
        found.append(branches[k][0])
        free = branches[k][1]
    return found
