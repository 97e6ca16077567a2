"""The word of the rim of a coal, and words read to coals."""

from sootring.cells import beside, holes
from sootring.coal import MOST_CELLS, Coal, numbered
from sootring.errors import NoWord
from sootring.points import corners_of
from sootring.turnings import at_corner

MOST_LETTERS = 58

# A place on the rim is a tuple (cell, side): the cell at the right hand, and which of its sides is gone along.
# The end of that side is the corner that the cell has in common with its neighbours `side` and `side + 1`.


def cell_ahead(place):
    """The cell that lies ahead at the end of the side, beyond the turn."""
    return beside(place[0])[(place[1] + 1) % 6]


def place_behind(place, letter):
    """The next place, behind the turn that the letter tells."""
    if letter == "r":
        return (place[0], (place[1] + 1) % 6)
    # Seen from the cell ahead, the side between the two cells has a number that differs by 3 from its number
    # here, side + 1; the rim goes on along the side behind that one.
    return (cell_ahead(place), (place[1] + 5) % 6)


def first_place(coal):
    """The place where the rim begins."""
    cell = min(coal.cells(), key=lambda one: (one[1], one[0]))
    return (cell, 0)


def rim(coal):
    """The word of the rim."""
    numbers = numbered(coal.cells())
    start = first_place(coal)
    place = start
    letters = []
    while not letters or place != start:
        letter = "l" if cell_ahead(place) in numbers else "r"
        letters.append(letter)
        place = place_behind(place, letter)
    return "".join(letters)


def least_begun(word):
    """The least text that comes of beginning the word at any of its letters."""
    least = word
    for k in range(len(word)):
        least = min(least, word[k:] + word[:k])
    return least


def least_word(word):
    """The least text that comes of beginning the word anywhere and reading it either way."""
    backwards = "".join(reversed(word))
    return min(least_begun(word), least_begun(backwards))


def check_letters(word):
    """Refuse a text that is no row of letters, or too long a one for any coal."""
    if not 1 <= len(word) <= MOST_LETTERS:
        raise NoWord("the text has no signs, or too many")
    if word.count("r") + word.count("l") != len(word):
        raise NoWord("the text has another sign than r and l")


def places_along(word):
    """The places that the turns of a word lead along, from the first one to the one behind the last turn."""
    place = ((0, 0), 0)
    found = [place]
    for letter in word:
        place = place_behind(place, letter)
        found.append(place)
    return found


def check_places(places):
    """Refuse a way that does not come back to its beginning, or comes to a point twice ahead of that."""
    if places[-1] != places[0]:
        raise NoWord("the way does not come back to where and as it began")
    points = [corners_of(place[0])[place[1]] for place in places[1:]]
    if len(set(points)) != len(points):
        raise NoWord("the way comes to a point twice")


def cells_within(places):
    """The cells that a closed way clockwise goes round."""
    # The cells at the right hang together, and no way leads out past them: what they close in are their holes.
    found = sorted(set([place[0] for place in places]))
    for hole in holes(found):
        found = found + hole
    return found


def coal_of(word):
    """The coal that has the text as the turns along its rim, from whatever tie on."""
    check_letters(word)
    places = places_along(word)
    check_places(places)
    # A closed way that crosses nowhere turns round just once: six turns more to the one hand than to the other.
    if word.count("r") < word.count("l"):
        raise NoWord("the way goes round to the left")
    cells = cells_within(places)
    if len(cells) > MOST_CELLS:
        raise NoWord("the coal would have too many cells")
    return Coal(at_corner(cells))
