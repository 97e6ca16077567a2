"""Tables of neighbours, and determinants."""

from sootring.errors import NoTable
from sootring.points import is_light


def numbers_by_colour(coal, light):
    """The numbers of the light points, or of the dark ones, rising."""
    return [number for number, point in enumerate(coal.points()) if is_light(point) == light]


def table_of(coal, down, across):
    """A row for each point of the one list, a column for each of the other, with 1 where they are neighbours."""
    rows = []
    for point in down:
        near = coal.near(point)
        rows.append([1 if other in near else 0 for other in across])
    return rows


def table(coal):
    """The table of the light points by the dark ones."""
    return table_of(coal, numbers_by_colour(coal, True), numbers_by_colour(coal, False))


def whole_table(coal):
    """The table of all points by all points."""
    numbers = list(range(len(coal.points())))
    return table_of(coal, numbers, numbers)


def check_table(rows):
    """Refuse a table with a row that is not as long as there are rows."""
    if any([len(row) != len(rows) for row in rows]):
        raise NoTable("a row is not as long as there are rows")


def first_with_a_head(rows):
    """The place of the first row that does not begin with 0, or None."""
    for place, row in enumerate(rows):
        if row[0] != 0:
            return place
    return None


def reduced(row, head, divisor):
    """The row less as much of the head row as makes its first number 0, without that number."""
    # Without a remainder: each number that comes of it is itself a determinant of some rows and columns of the
    # table, so it stays no longer than it must.
    return [(head[0] * row[k] - row[0] * head[k]) // divisor for k in range(1, len(head))]


def determinant(rows):
    """The determinant of a table of whole numbers with as many rows as columns."""
    check_table(rows)
    left = list(rows)
    sign = 1
    last = 1
    while left:
        place = first_with_a_head(left)
        if place is None:
            return 0
        # The row is taken to the front, past as many rows as its place tells.
        if place % 2 == 1:
            sign = -sign
        head = left.pop(place)
        left = [reduced(row, head, last) for row in left]
        last = head[0]
    return sign * last
