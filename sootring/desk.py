"""A desk: rows of words, told one at a time, and answered by a book and by the functions of the program."""

from sootring.book import Book
from sootring.coal import check_number, numbered
from sootring.errors import NoRow
from sootring.lifts import road
from sootring.listing import number_of, pairing_at
from sootring.notes import (
    NOTHING, read_cell, read_number, read_tie, read_ties, show_cells, show_fraction, show_list, show_ties,
)
from sootring.pairing import paired
from sootring.rim import coal_of
from sootring.shares import kinds, shares
from sootring.turns import turn

# The words of a row, the first one among them; rows that end with ties may have more.
WORDS_DUE = {
    "put": 2, "take": 2, "cells": 1, "word": 1, "count": 1, "rings": 1, "paired": 1, "number": 2, "at": 2,
    "kind": 2, "share": 2, "turn": 3, "road": 4, "read": 2, "news": 1,
}
ENDING_WITH_TIES = ("number", "turn", "road")
BETWEEN = "/"


def check_words(words):
    """Refuse a row that begins with another word, or has too few or too many."""
    first = words[0]
    if first not in WORDS_DUE:
        raise NoRow("no row begins with this word")
    if len(words) < WORDS_DUE[first]:
        raise NoRow("the row has too few words")
    if len(words) > WORDS_DUE[first] and first not in ENDING_WITH_TIES:
        raise NoRow("the row has too many words")
    if first == "road":
        check_road(words)


def check_road(words):
    """Refuse a row without just one word / that has words on either side."""
    if words.count(BETWEEN) != 1 or words[1] == BETWEEN or words[-1] == BETWEEN:
        raise NoRow("a road has just one /, with ties on either side")


def ties_in(words):
    """The ties that some words of a row tell."""
    return read_ties(" ".join(words))


def at_tie(coal, told, tie):
    """What a list, with a thing for each tie of the coal, tells of this tie."""
    number = numbered(coal.ties()).get(tie, -1)
    check_number(number, len(told))
    return told[number]


# Each answer is asked for with the book and with the words of the row, the first one among them.


def answer_put(book, words):
    """The answer to `put CELL`."""
    book.put(read_cell(words[1]))
    return "ok"


def answer_take(book, words):
    """The answer to `take CELL`."""
    book.take(read_cell(words[1]))
    return "ok"


def answer_cells(book, words):
    """The answer to `cells`."""
    return show_cells(book.coal().cells())


def answer_word(book, words):
    """The answer to `word`."""
    return book.word()


def answer_count(book, words):
    """The answer to `count`."""
    return str(book.count())


def answer_rings(book, words):
    """The answer to `rings`."""
    told = book.rings()
    if told is None:
        return NOTHING
    return str(told)


def answer_paired(book, words):
    """The answer to `paired`."""
    told = paired(book.coal())
    if told[0] == "paired":
        return show_ties(told[1])
    return show_list([told[0]] + [str(point) for point in told[1]])


def answer_number(book, words):
    """The answer to `number TIES`."""
    return str(number_of(book.coal(), ties_in(words[1:])))


def answer_at(book, words):
    """The answer to `at NUMBER`."""
    return show_ties(pairing_at(book.coal(), read_number(words[1])))


def answer_kind(book, words):
    """The answer to `kind TIE`."""
    tie = read_tie(words[1])
    return at_tie(book.coal(), kinds(book.coal()), tie)


def answer_share(book, words):
    """The answer to `share TIE`."""
    tie = read_tie(words[1])
    return show_fraction(at_tie(book.coal(), shares(book.coal()), tie))


def answer_turn(book, words):
    """The answer to `turn CELL TIES`."""
    cell = read_cell(words[1])
    pairing = ties_in(words[2:])
    # A cell that is not in the coal is asked for by a number of none, as it is refused behind what is no pairing.
    number = numbered(book.coal().cells()).get(cell, -1)
    return show_ties(turn(book.coal(), pairing, number))


def answer_road(book, words):
    """The answer to `road TIES / TIES`."""
    middle = words.index(BETWEEN)
    one = ties_in(words[1:middle])
    other = ties_in(words[middle + 1:])
    cells = book.coal().cells()
    return show_cells([cells[number] for number in road(book.coal(), one, other)])


def answer_read(book, words):
    """The answer to `read WORD`."""
    return show_cells(coal_of(words[1]).cells())


def answer_news(book, words):
    """The answer to `news`."""
    told = book.news()
    if len(told) == 0:
        return NOTHING
    return "; ".join(told)


ANSWERS = {
    "put": answer_put, "take": answer_take, "cells": answer_cells, "word": answer_word, "count": answer_count,
    "rings": answer_rings, "paired": answer_paired, "number": answer_number, "at": answer_at, "kind": answer_kind,
    "share": answer_share, "turn": answer_turn, "road": answer_road, "read": answer_read, "news": answer_news,
}


class Desk:
    """A desk; it has a book of its own."""

    def __init__(self):
        self.book = Book()

    def say(self, row):
        """The answer to a row."""
        words = row.split(" ")
        check_words(words)
        answer = ANSWERS[words[0]]
        return answer(self.book, words)
