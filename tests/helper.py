"""What several test files need: lists of cells to try, and ways to reckon answers anew."""

from sootring.errors import SootError

BIG = 10 ** 60 - 1

# The honeycomb's steps as a set, written anew, so that no test leans on the order in `beside`.
STEPS = {(1, -1), (1, 0), (0, 1), (-1, 1), (-1, 0), (0, -1)}

# The six cells round (0, 0), and the eight round (0, 0) and (1, 0).
RING = [(1, -1), (1, 0), (0, 1), (-1, 1), (-1, 0), (0, -1)]
LONG_RING = [(2, -1), (2, 0), (1, 1), (0, 1), (-1, 1), (-1, 0), (0, -1), (1, -1)]
# Two rings with the cell (1, 0) in common, round (0, 0) and (2, 0).
TWO_RINGS = sorted(set(RING) | {(a + 2, b) for a, b in RING})

# Things that are no cells, of all kinds that a thing may be built of.
NO_CELLS = [
    0, 7, -3, BIG, True, False, None, "", "a", "ab", "1:2", [], [0, 0], [(0, 0)],
    (), (1,), (0, 0, 0), (1, 2, 3), ((0, 0),), (0, 0, None),
    (True, 0), (0, True), (False, 0), (0, False), (True, False),
    ("0", 0), (0, "0"), ("a", "b"), (None, 0), (0, None), (None, None),
    ([], 0), (0, []), ([0], [0]), ((), 0), (0, ()), ((0, 0), 0), (0, (0, 0)), ((0, 0), (0, 0)),
]


def refusal(ask, *given):
    """The very class of the refusal that a question comes to, or None where it is answered."""
    try:
        ask(*given)
    except SootError as error:
        return type(error)
    return None


def row(many, a=0, b=0, step=(1, 0)):
    """So many cells in a straight row."""
    return [(a + k * step[0], b + k * step[1]) for k in range(many)]


def mixed(things):
    """The same things in another order, always the same one."""
    return things[1::3] + things[2::3][::-1] + things[0::3]


def moved(cells, a, b):
    return [(cell[0] + a, cell[1] + b) for cell in cells]


def are_beside(one, other):
    return (other[0] - one[0], other[1] - one[1]) in STEPS


def parts_anew(cells):
    """The parts of some cells, reckoned by joining groups."""
    groups = []
    for cell in cells:
        touched = [group for group in groups if any(are_beside(cell, other) for other in group)]
        groups = [group for group in groups if group not in touched]
        groups.append(sum(touched, []) + [cell])
    return sorted(sorted(group) for group in groups)


def subsets(cells):
    for bits in range(1 << len(cells)):
        yield [cell for k, cell in enumerate(cells) if bits >> k & 1]


def shapes(most):
    """For each size from 1 to most all lists of cells that hang together, as they lie at the corner."""
    found = {((0, 0),)}
    for many in range(1, most + 1):
        yield many, [list(cells) for cells in sorted(found)]
        grown = set()
        for cells in found:
            for cell in cells:
                for step in STEPS:
                    new = (cell[0] + step[0], cell[1] + step[1])
                    if new not in cells:
                        grown.add(at_corner(cells + (new,)))
        found = grown


def at_corner(cells):
    a = min(cell[0] for cell in cells)
    b = min(cell[1] for cell in cells)
    return tuple(sorted(moved(cells, -a, -b)))
