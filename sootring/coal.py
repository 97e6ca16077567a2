"""Coals: lists of cells that hang together and have no hole, with their points and ties."""

from sootring.cells import holes, is_cell, parts
from sootring.errors import NoCell, NoCoal, NoNumber, Twice
from sootring.points import corners_of

MOST_CELLS = 14


def check_cells(cells):
    """Refuse a list of any things of which no coal can be made."""
    # The order is promised, and each check leans on those ahead of it: a thing that is no cell
    # may have no place in a set, and cells far apart have a box too big to search for holes.
    if not all([is_cell(thing) for thing in cells]):
        raise NoCell("a thing in the list is no cell")
    if len(set(cells)) != len(cells):
        raise Twice("a cell stands twice in the list")
    if not 1 <= len(cells) <= MOST_CELLS:
        raise NoCoal("there are no cells, or too many")
    if len(parts(cells)) != 1:
        raise NoCoal("the cells don't hang together")
    if len(holes(cells)) != 0:
        raise NoCoal("the cells have a hole")


def check_number(number, many):
    """Refuse a whole number that is not from 0 on and below the number of things there are."""
    if not 0 <= number < many:
        raise NoNumber("there is nothing of this number")


def united(lists):
    """All things of several lists, each once, sorted."""
    found = []
    for things in lists:
        found.extend(things)
    return sorted(set(found))


def numbered(things):
    """A dict from each thing to its place in the list."""
    numbers = {}
    for number, thing in enumerate(things):
        numbers[thing] = number
    return numbers


def numbers_of(lists, things):
    """The lists, with the number that each thing has among all things in its place."""
    numbers = numbered(things)
    found = []
    for some in lists:
        found.append([numbers[thing] for thing in some])
    return found


def sides_round(corners):
    """The sides 0 to 5 of a cell as ties, of the numbers of its corners 0 to 5."""
    found = []
    for k in range(6):
        one = corners[k]
        other = corners[(k + 1) % 6]
        found.append((min(one, other), max(one, other)))
    return found


def neighbours_by(ties, many):
    """For each of so many points the numbers of its neighbours, rising."""
    found = [[] for point in range(many)]
    for tie in ties:
        found[tie[0]].append(tie[1])
        found[tie[1]].append(tie[0])
    return [sorted(numbers) for numbers in found]


class Coal:
    """A coal; it never changes."""

    def __init__(self, cells):
        check_cells(cells)
        self.all_cells = sorted(cells)
        corners = [corners_of(cell) for cell in self.all_cells]
        self.all_points = united(corners)
        self.all_corners = numbers_of(corners, self.all_points)
        sides = [sides_round(numbers) for numbers in self.all_corners]
        self.all_ties = united(sides)
        self.all_sides = numbers_of(sides, self.all_ties)
        self.all_near = neighbours_by(self.all_ties, len(self.all_points))

    def cells(self):
        """The cells, sorted."""
        return list(self.all_cells)

    def many(self):
        """How many cells there are."""
        return len(self.all_cells)

    def points(self):
        """The points, sorted."""
        return list(self.all_points)

    def ties(self):
        """The ties, sorted, each a tuple of the numbers of its two points."""
        return list(self.all_ties)

    def corners(self, cell):
        """The numbers of the points at corners 0 to 5 of the cell of this number."""
        check_number(cell, len(self.all_corners))
        return list(self.all_corners[cell])

    def sides(self, cell):
        """The numbers of the ties along sides 0 to 5 of the cell of this number."""
        check_number(cell, len(self.all_sides))
        return list(self.all_sides[cell])

    def near(self, point):
        """The numbers of the neighbours of the point of this number, rising."""
        check_number(point, len(self.all_near))
        return list(self.all_near[point])
