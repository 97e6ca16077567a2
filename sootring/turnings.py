"""The twelve turnings of cells, and coals that are alike."""

TURNINGS = 12


def turned_once(cell):
    """Where turning 1 takes a cell."""
    return (-cell[1], cell[0] + cell[1])


def turned_cell(cell, way):
    """Where the turning of this number takes a cell."""
    found = cell
    if way >= 6:
        found = (cell[1], cell[0])
    for k in range(way % 6):
        found = turned_once(found)
    return found


def at_corner(cells):
    """The cells laid at the corner, sorted."""
    least_first = min([cell[0] for cell in cells])
    least_second = min([cell[1] for cell in cells])
    return sorted([(cell[0] - least_first, cell[1] - least_second) for cell in cells])


def turned(cells, way):
    """The cells turned by the turning of this number and laid at the corner, sorted."""
    return at_corner([turned_cell(cell, way) for cell in cells])


def alike(one, other):
    """The least number of a turning that brings the first coal onto the second one, or None."""
    cells = one.cells()
    due = at_corner(other.cells())
    for way in range(TURNINGS):
        if turned(cells, way) == due:
            return way
    return None
