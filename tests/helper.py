"""What several test files need: lists of cells to try, and ways to reckon answers anew."""

import copy
from functools import lru_cache

from sootring.cells import holes
from sootring.coal import Coal
from sootring.errors import SootError

BIG = 10 ** 60 - 1

# The honeycomb's steps as a set, written anew, so that no test leans on the order in `beside`.
STEPS = {(1, -1), (1, 0), (0, 1), (-1, 1), (-1, 0), (0, -1)}

# The six cells round (0, 0), and the eight round (0, 0) and (1, 0).
RING = [(1, -1), (1, 0), (0, 1), (-1, 1), (-1, 0), (0, -1)]
LONG_RING = [(2, -1), (2, 0), (1, 1), (0, 1), (-1, 1), (-1, 0), (0, -1), (1, -1)]
# Two rings with the cell (1, 0) in common, round (0, 0) and (2, 0).
TWO_RINGS = sorted(set(RING) | {(a + 2, b) for a, b in RING})

# Things that are no cells, of all kinds that a thing may be built of.
NO_CELLS = [
    0, 7, -3, BIG, True, False, None, "", "a", "ab", "1:2", [], [0, 0], [(0, 0)],
    (), (1,), (0, 0, 0), (1, 2, 3), ((0, 0),), (0, 0, None),
    (True, 0), (0, True), (False, 0), (0, False), (True, False),
    ("0", 0), (0, "0"), ("a", "b"), (None, 0), (0, None), (None, None),
    ([], 0), (0, []), ([0], [0]), ((), 0), (0, ()), ((0, 0), 0), (0, (0, 0)), ((0, 0), (0, 0)),
]


def refusal(ask, *given):
    """The very class of the refusal that a question comes to, or None where it is answered."""
    try:
        ask(*given)
    except SootError as error:
        return type(error)
    return None


def row(many, a=0, b=0, step=(1, 0)):
    """So many cells in a straight row."""
    return [(a + k * step[0], b + k * step[1]) for k in range(many)]


def mixed(things):
    """The same things in another order, always the same one."""
    return things[1::3] + things[2::3][::-1] + things[0::3]


def moved(cells, a, b):
    return [(cell[0] + a, cell[1] + b) for cell in cells]


def are_beside(one, other):
    return (other[0] - one[0], other[1] - one[1]) in STEPS


def parts_anew(cells):
    """The parts of some cells, reckoned by joining groups."""
    groups = []
    for cell in cells:
        touched = [group for group in groups if any(are_beside(cell, other) for other in group)]
        groups = [group for group in groups if group not in touched]
        groups.append(sum(touched, []) + [cell])
    return sorted(sorted(group) for group in groups)


def subsets(cells):
    for bits in range(1 << len(cells)):
        yield [cell for k, cell in enumerate(cells) if bits >> k & 1]


def shapes(most):
    """For each size from 1 to most all lists of cells that hang together, as they lie at the corner."""
    found = {((0, 0),)}
    for many in range(1, most + 1):
        yield many, [list(cells) for cells in sorted(found)]
        grown = set()
        for cells in found:
            for cell in cells:
                for step in STEPS:
                    new = (cell[0] + step[0], cell[1] + step[1])
                    if new not in cells:
                        grown.add(at_corner(cells + (new,)))
        found = grown


def at_corner(cells):
    a = min(cell[0] for cell in cells)
    b = min(cell[1] for cell in cells)
    return tuple(sorted(moved(cells, -a, -b)))


FLOWER = RING + [(0, 0)]
BLOCK = [(a, b) for a in range(7) for b in range(2)]
TRIANGLE = [(a, b) for a in range(4) for b in range(4) if a + b < 4]
BENT = row(7) + row(7, 6, 1, (0, 1))
# Fourteen cells, each one's place turned aside from the one ahead, by turns to either hand.
ZIGZAG = [((k + 1) // 2, k // 2) for k in range(14)]
# Eleven cells in rows of three, two, one, two and three: as many light as dark points, and no pairing.
GOBLET = row(3, 0, -2) + row(2, 0, -1) + row(1) + row(2, -1, 1) + row(3, -2, 2)
# The same with a part more, up to fourteen cells.
GOBLETS = [GOBLET, GOBLET + [(3, -3)], GOBLET + [(-3, 2), (-4, 2)], GOBLET + [(3, -2), (4, -2), (5, -3)]]
# Lists of cells that make coals without a pairing, for want of points of one colour or for another reason.
UNPAIRED = [TRIANGLE, [(0, 0), (1, 0), (0, 1)], moved([(0, 0), (0, 1), (-1, 1)], BIG, -BIG)] + GOBLETS
# The two pairings of a coal of one cell: the first has its sides 0, 2 and 4, the second its sides 1, 3 and 5.
UP = [(0, 1), (2, 5), (3, 4)]
DOWN = [(0, 3), (1, 2), (4, 5)]
# Three arms from one cell, and branches on them: of the coals of fourteen cells one with many pairings.
BRANCHED = [
    (0, 0), (0, 1), (-1, 2), (1, 1), (-1, 3), (2, 0), (-2, 2),
    (3, 0), (2, -1), (-3, 3), (-3, 4), (-4, 5), (-4, 6), (-5, 5),
]


def some_coals():
    """Lists of cells of which a coal can be made, of all sizes from 1 to 14."""
    lists = [cells for many, found in shapes(4) for cells in found]
    lists += [row(many, -2, 3) for many in range(5, 15)]
    lists += [row(14, 5, -5, (1, -1)), row(14, 0, 0, (0, 1)), FLOWER, BLOCK, TRIANGLE, BENT]
    lists += [[cell for cell in RING if cell != other] for other in RING]
    lists += [moved(FLOWER, BIG, -BIG), moved(BENT, -BIG, 4)]
    return lists


def grown(many, seed):
    """So many cells that make a coal, grown cell by cell in a way that hangs on the seed alone."""
    cells = [(0, 0)]
    state = seed * 7919 + 17
    while len(cells) < many:
        state = (state * 1103515245 + 12345) % 2 ** 31
        # Some of the seeds grow at the latest cells only, so that long arms come of it.
        wide = 3 if seed % 2 else len(cells)
        a, b = cells[-1 - state // 64 % min(wide, len(cells))]
        step = sorted(STEPS)[state // 65536 % 6]
        new = (a + step[0], b + step[1])
        if new not in cells and holes(cells + [new]) == []:
            cells.append(new)
    return cells


def big_coals():
    """Lists of fourteen cells of which a coal can be made."""
    lists = [row(14), row(14, 0, 0, (1, -1)), row(14, 3, 4, (0, 1)), BLOCK, BENT, ZIGZAG, BRANCHED, GOBLETS[3]]
    return lists + [grown(14, seed) for seed in range(1, 25)]


def coals_to_pair():
    """Coals of all sizes, among them such as have no pairing for one reason or the other."""
    lists = some_coals() + GOBLETS + big_coals()
    lists += [grown(many, seed) for many in range(5, 14) for seed in range(4)]
    return [Coal(mixed(cells)) for cells in lists]


def pairings_anew(coal):
    """All pairings of a coal in order; the point with the fewest free neighbours is paired first."""
    found = []
    near = {point: coal.near(point) for point in range(len(coal.points()))}

    def go_on(free, ties):
        if not free:
            found.append(sorted(ties))
            return
        point = min(sorted(free), key=lambda one: len(free & set(near[one])))
        for other in near[point]:
            if other in free:
                go_on(free - {point, other}, ties + [(min(point, other), max(point, other))])

    go_on(frozenset(near), [])
    return sorted(found)


def most_ringed_anew(coal):
    """How many cells can be ringed at once, by trying all ways to part the points, or None where there are none."""
    near = [coal.near(point) for point in range(len(coal.points()))]
    corners = [frozenset(coal.corners(cell)) for cell in range(coal.many())]

    @lru_cache(None)
    def most(free):
        if not free:
            return 0
        point = min(free)
        ways = [(0, free - {point, other}) for other in near[point] if other in free]
        ways += [(1, free - cell) for cell in corners if point in cell and cell <= free]
        found = [(more, most(left)) for more, left in ways]
        return max([more + rest for more, rest in found if rest is not None], default=None)

    return most(frozenset(range(len(near))))


def in_order(cells):
    """The cells in an order in which each beginning makes a coal, from the first one on."""
    found = cells[:1]
    left = cells[1:]
    while left:
        new = next(cell for cell in left if refusal(Coal, found + [cell]) is None)
        found.append(new)
        left.remove(new)
    return found


def laid_from_nought(cells):
    """The cells laid so that the first one comes to lie at (0, 0), in an order in which a book can be put to them."""
    return in_order(moved(cells, -cells[0][0], -cells[0][1]))


def no_pairings(coal, pairing):
    """Things of all kinds that are no pairing of the coal, most of them made of one that is."""
    (i, j), rest = pairing[0], pairing[1:]
    (k, n) = pairing[-1]
    many = len(coal.points())
    # In one of its ties stands the point 1.
    place = [1 in tie for tie in pairing].index(True)
    true_tie = tuple(True if point == 1 else point for point in pairing[place])
    crossed = sorted([tuple(sorted([i, k])), tuple(sorted([j, n]))] + pairing[1:-1])
    things = [
        rest, pairing[:-1], pairing[:1] + pairing, pairing + pairing[-1:], [(i, j)] + rest[:-1] + [(i, j)],
        pairing + pairing, sorted(pairing + pairing), (pairing * 200)[:200],
        [(j, i)] + rest, rest + [(j, i)], sorted([(j, i)] + rest), pairing[:-1] + [(n, k)],
        [(b, a) for a, b in pairing], sorted((b, a) for a, b in pairing),
        pairing[::-1], rest + pairing[:1], [pairing[1], pairing[0]] + pairing[2:],
        pairing[:-2] + [pairing[-1], pairing[-2]], crossed,
        tuple(pairing), [list(tie) for tie in pairing], [[i, j]] + rest, pairing[:-1] + [[k, n]], [pairing],
        (pairing,), [tuple(pairing)], [(False, j)] + rest, pairing[:place] + [true_tie] + pairing[place + 1:],
        [(i, j, 0)] + rest, pairing[:-1] + [(k, n, 0)], [(i, j, k, n)] + pairing[1:-1], [(i,)] + rest, [()] + rest,
        [(i, j + 1)] + rest, [(i, j - 1)] + rest, [(i, BIG)] + rest, [(-1, j)] + rest, [(-BIG, j)] + rest,
        [(i - many, j)] + rest, [(i, j - many)] + rest, [(i - many, j - many)] + rest, pairing[:-1] + [(k, n + many)],
        [(a - many, b - many) for a, b in pairing], [(i, j)] + [(a, b + 1) for a, b in rest],
        [(None, j)] + rest, [(i, None)] + rest, [(str(i), j)] + rest, [(i, str(j))] + rest, [(i, [j])] + rest,
        [([i], j)] + rest, [(i, (j,))] + rest, [((i, j),)] + rest, [((i, j), (k, n))] + pairing[1:-1],
        [None] + rest, rest + [None], pairing + [None], pairing + [()], pairing + [[]], pairing + [""],
        [""] + rest, ["01"] + rest, pairing + [True], pairing + [0], [i] + rest, [i, j] + rest,
        sum([[a, b] for a, b in pairing], []), " ".join(f"{a}-{b}" for a, b in pairing), f"{i}-{j}", "none",
        None, True, False, 0, 1, -1, BIG, "", "a", [], (), [[]], [()], [None], [True], [0], [""], [(0, 1)], (0, 1),
        list(range(many)), [(a, a) for a in range(many)], [(a, a + 1) for a in range(0, many + 2, 2)], [[[[]]]],
    ]
    # Some are like the pairing by their values, as truths are like numbers, but none is written like it.
    return [thing for thing in things if repr(thing) != repr(pairing)]


def no_numbers(many):
    """Things of all kinds that are none of the whole numbers from 0 on and below so many."""
    return [
        many, many + 1, -1, -2, -many, -many - 1, 10 ** 20, -10 ** 20, BIG, -BIG, True, False, None,
        "", "0", "1", "a", [], [0], (), (0,), [(0, 1)], [None], (0, 1),
    ]


def spoil(thing):
    """Change every list in a thing that was told."""
    if isinstance(thing, (list, tuple)):
        for inner in thing:
            spoil(inner)
    if isinstance(thing, list):
        thing.reverse()
        thing[1:2] = []
        thing.append(99)


def answers(coal):
    """All that a coal tells."""
    cells = range(coal.many())
    points = range(len(coal.points()))
    return (
        coal.cells(), coal.many(), coal.points(), coal.ties(), [coal.corners(k) for k in cells],
        [coal.sides(k) for k in cells], [coal.near(k) for k in points],
    )


def as_it_stands(given):
    """What was handed in, written out, so that it can be seen whether it was changed."""
    return repr([answers(thing) if isinstance(thing, Coal) else thing for thing in given])


def check_own(test, ask, *given):
    """What [2] says: what is handed in stays, a told list is the asker's own, and the answer is the same again."""
    before = as_it_stands(given)
    first = ask(*given)
    kept = copy.deepcopy(first)
    spoil(ask(*given))
    test.assertEqual(first, kept)
    spoil(first)
    test.assertEqual(ask(*given), kept)
    test.assertEqual(as_it_stands(given), before)


def check_refused(test, due, ask, *given):
    """A refusal of this very class, which changes nothing that was handed in."""
    before = as_it_stands(given)
    test.assertIs(refusal(ask, *given), due, repr(given))
    test.assertEqual(as_it_stands(given), before)
