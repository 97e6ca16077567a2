"""Lifts from one pairing to another, and roads of turned cells."""

from sootring.cells import beside
from sootring.coal import numbered
from sootring.pairing import check_pairing
from sootring.turns import can_turn, kept_ties, make_turn


def rise_over(tie, side, before, after):
    """By how much the lift rises from a cell over its side of this number, which is this tie."""
    if (tie in before) == (tie in after):
        return 0
    if (tie in before) == (side % 2 == 0):
        return 1
    return -1


def lift_between(coal, before, after):
    """The lift, by the kept ties of the two pairings."""
    cells = coal.cells()
    numbers = numbered(cells)
    # The neighbour 4 of the first cell has a lesser first number, so it is not in the coal and counts 0.
    known = {0: -rise_over(coal.sides(0)[4], 4, before, after)}
    waiting = [0]
    while waiting:
        here = waiting.pop()
        sides = coal.sides(here)
        for side, cell in enumerate(beside(cells[here])):
            there = numbers.get(cell)
            if there is not None and there not in known:
                known[there] = known[here] + rise_over(sides[side], side, before, after)
                waiting.append(there)
    return [known[number] for number in range(len(cells))]


def lift(coal, one, other):
    """The lift from one pairing to another, a whole number for each cell."""
    check_pairing(coal, one)
    check_pairing(coal, other)
    return lift_between(coal, kept_ties(coal, one), kept_ties(coal, other))


def next_turn(coal, kept, left):
    """A cell with turns left to be made that can be turned so now."""
    for cell, turns in enumerate(left):
        if turns != 0 and can_turn(coal, kept, cell, turns > 0):
            return cell
    return None


def road(coal, one, other):
    """Cells that lead, turned one behind the other, from one pairing to another, in as few turns as can be."""
    left = lift(coal, one, other)
    kept = kept_ties(coal, one)
    found = []
    # No turn brings the kept pairing nearer than by one, and some road has just as many turns as are left: so its
    # first turn is one of those left, and can be made now.
    cell = next_turn(coal, kept, left)
    while cell is not None:
        up = left[cell] > 0
        make_turn(coal, kept, cell, up)
        left[cell] = left[cell] - 1 if up else left[cell] + 1
        found.append(cell)
        cell = next_turn(coal, kept, left)
    return found
