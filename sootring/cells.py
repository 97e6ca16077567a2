"""Cells of the honeycomb, their neighbours, and the parts and holes of lists of cells."""


def is_whole(thing):
    """Whether any thing is a whole number."""
    return isinstance(thing, int) and not isinstance(thing, bool)


def is_pair(thing):
    """Whether any thing is a tuple of two whole numbers."""
    if not isinstance(thing, tuple) or len(thing) != 2:
        return False
    return is_whole(thing[0]) and is_whole(thing[1])


def is_cell(thing):
    """Whether any thing is a cell."""
    return is_pair(thing)


def beside(cell):
    """The six neighbours of a cell, clockwise from the upper right."""
    a = cell[0]
    b = cell[1]
    return [(a + 1, b - 1), (a + 1, b), (a, b + 1), (a - 1, b + 1), (a - 1, b), (a, b - 1)]


def marked(cells):
    """A dict with the cells as keys, so that asking for one takes no walk."""
    marks = {}
    for cell in cells:
        marks[cell] = True
    return marks


def part_from(start, free):
    """The part that a cell belongs to, sorted; its cells are taken out of the dict of free ones."""
    free.pop(start)
    found = [start]
    waiting = [start]
    while waiting:
        here = waiting.pop()
        for cell in beside(here):
            if cell in free:
                free.pop(cell)
                found.append(cell)
                waiting.append(cell)
    return sorted(found)


def parts(cells):
    """The parts of a list of unlike cells, in the order of their first cells."""
    free = marked(cells)
    found = []
    for cell in sorted(cells):
        if cell in free:
            found.append(part_from(cell, free))
    return found


def cells_around(cells):
    """The cells not in the list, in the box that reaches one cell beyond it on each side."""
    firsts = [cell[0] for cell in cells]
    seconds = [cell[1] for cell in cells]
    taken = marked(cells)
    found = []
    for a in range(min(firsts) - 1, max(firsts) + 2):
        for b in range(min(seconds) - 1, max(seconds) + 2):
            if (a, b) not in taken:
                found.append((a, b))
    return found


def holes(cells):
    """The holes of a list of cells that hangs together, in the order of their first cells."""
    # The box's edge belongs to the part without end, and the box's first cell lies on that edge:
    # so that part comes first, and all others are closed in.
    return parts(cells_around(cells))[1:]
