"""The corners of cells, light and dark."""


def corners_of(cell):
    """The six corners of a cell, clockwise from the top."""
    a = cell[0]
    b = cell[1]
    return [(a, b, 0), (a + 1, b - 1, 1), (a, b + 1, 0), (a, b, 1), (a - 1, b + 1, 0), (a, b - 1, 1)]


def is_light(point):
    """Whether a point is light; the others are dark."""
    return point[2] == 0
