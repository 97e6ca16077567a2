"""Numbers, cells, ties and fractions written as texts, and cells and ties read again."""

from sootring.errors import NoText

FIGURES = "0123456789"
MOST_FIGURES = 40
NOTHING = "none"


def show_list(words):
    """The words with blanks between, or what is written where there are none."""
    if len(words) == 0:
        return NOTHING
    return " ".join(words)


def show_pair(pair, between):
    """Two numbers with a sign between."""
    return str(pair[0]) + between + str(pair[1])


def show_cells(cells):
    """A list of cells, written."""
    return show_list([show_pair(cell, ":") for cell in cells])


def show_ties(ties):
    """A list of ties, written."""
    return show_list([show_pair(tie, "-") for tie in ties])


def show_fraction(fraction):
    """A fraction, a tuple of its top and its bottom, written."""
    if fraction[1] == 1:
        return str(fraction[0])
    return show_pair(fraction, "/")


def read_figures(text):
    """A whole number from 0 on, read."""
    if not 1 <= len(text) <= MOST_FIGURES:
        raise NoText("a number has no figures, or too many")
    if not all([sign in FIGURES for sign in text]):
        raise NoText("a sign stands where a figure is due")
    if text[0] == "0" and text != "0":
        raise NoText("a nought stands ahead in a number")
    return int(text)


def read_number(text):
    """A whole number of either sign, read."""
    if not text.startswith("-"):
        return read_figures(text)
    number = read_figures(text[1:])
    if number == 0:
        raise NoText("0 has no sign")
    return -number


def read_halves(word, between):
    """The two texts ahead of and behind a sign that must stand in a word just once."""
    halves = word.split(between)
    if len(halves) != 2:
        raise NoText("these are not two numbers with a sign between")
    return halves


def read_cell(word):
    """One cell, read."""
    halves = read_halves(word, ":")
    return (read_number(halves[0]), read_number(halves[1]))


def read_tie(word):
    """One tie, read."""
    halves = read_halves(word, "-")
    tie = (read_figures(halves[0]), read_figures(halves[1]))
    if tie[0] >= tie[1]:
        raise NoText("the first number of a tie is not below its second")
    return tie


def read_cells(text):
    """A list of cells, read, in the order in which they stand."""
    if text == NOTHING:
        return []
    return [read_cell(word) for word in text.split(" ")]


def read_ties(text):
    """A list of ties, read, in the order in which they stand."""
    if text == NOTHING:
        return []
    return [read_tie(word) for word in text.split(" ")]
