"""Cells turned up and down in a pairing, and the lowest and the highest pairing."""

from sootring.coal import check_number, numbered
from sootring.errors import NoTurn
from sootring.pairing import check_paired, check_pairing, paired

# While cells are turned, a pairing is kept as a dict with the numbers of its ties as keys.


def kept_ties(coal, pairing):
    """A dict with the numbers of the ties of a pairing."""
    numbers = numbered(coal.ties())
    kept = {}
    for tie in pairing:
        kept[numbers[tie]] = True
    return kept


def pairing_of(coal, kept):
    """The pairing that the kept numbers of ties tell."""
    ties = coal.ties()
    return [ties[number] for number in sorted(kept)]


def sides_out(coal, cell, up):
    """The three sides of a cell that are taken out of a pairing when it is turned up, or down."""
    sides = coal.sides(cell)
    if up:
        return [sides[1], sides[3], sides[5]]
    return [sides[0], sides[2], sides[4]]


def can_turn(coal, kept, cell, up):
    """Whether a cell can be turned up, or down."""
    return all([side in kept for side in sides_out(coal, cell, up)])


def make_turn(coal, kept, cell, up):
    """Turn a cell that can be turned so."""
    for side in sides_out(coal, cell, up):
        kept.pop(side)
    for side in sides_out(coal, cell, not up):
        kept[side] = True


def turnable(coal, pairing):
    """The cells that can be turned, rising: tuples of the number and of whether it can be turned up."""
    check_pairing(coal, pairing)
    kept = kept_ties(coal, pairing)
    found = []
    for cell in range(coal.many()):
        for up in (True, False):
            if can_turn(coal, kept, cell, up):
                found.append((cell, up))
    return found


def turn(coal, pairing, cell):
    """The pairing that comes of turning the cell of this number."""
    check_pairing(coal, pairing)
    check_number(cell, coal.many())
    kept = kept_ties(coal, pairing)
    for up in (True, False):
        if can_turn(coal, kept, cell, up):
            make_turn(coal, kept, cell, up)
            return pairing_of(coal, kept)
    raise NoTurn("the cell can't be turned")


def first_to_turn(coal, kept, up):
    """The first cell that can be turned up, or down, or None."""
    for cell in range(coal.many()):
        if can_turn(coal, kept, cell, up):
            return cell
    return None


def turned_out(coal, up):
    """The pairing that comes of turning cells up, or down, as long as one can be."""
    check_paired(coal)
    kept = kept_ties(coal, paired(coal)[1])
    cell = first_to_turn(coal, kept, up)
    while cell is not None:
        make_turn(coal, kept, cell, up)
        cell = first_to_turn(coal, kept, up)
    return pairing_of(coal, kept)


def lowest(coal):
    """The pairing in which no cell can be turned down."""
    return turned_out(coal, False)


def highest(coal):
    """The pairing in which no cell can be turned up."""
    return turned_out(coal, True)
