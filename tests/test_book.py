"""Books: cells put and taken, what is told of the coal [27], what is kept, the news [28], and what [2] says of them."""

import unittest
from unittest import mock

from helper import (
    BENT, BIG, BLOCK, BRANCHED, FLOWER, GOBLET, NO_CELLS, RING, TRIANGLE, ZIGZAG, answers, big_coals, check_refused,
    coals_to_pair, grown, in_order, laid_from_nought, most_ringed_anew, moved, pairings_anew, refusal, row, spoil,
)
from sootring.book import Book
from sootring.coal import Coal
from sootring.errors import NoCell, NoCoal, Twice
from sootring.rim import least_word, rim
from sootring.turnings import turned

THREE_ROUND_A_POINT = [(0, 0), (1, 0), (0, 1)]


def book_of(cells):
    """A book with the coal of these cells, laid so that the first one is (0, 0)."""
    book = Book()
    for cell in laid_from_nought(cells)[1:]:
        book.put(cell)
    return book


def go_over(book, cells):
    """Put and take cells until the book has the coal of these, some way from what it has."""
    for cell in in_order(book.coal().cells())[:0:-1]:
        book.take(cell)
    here = book.coal().cells()[0]
    for cell in in_order(moved(cells, here[0] - cells[0][0], here[1] - cells[0][1]))[1:]:
        book.put(cell)


def word_of(cells):
    return least_word(rim(Coal(cells)))


class PutAndTake(unittest.TestCase):

    def check_refused(self, due, book, ask, thing):
        """A refusal that changes nothing in the book."""
        before = answers(book.coal())
        check_refused(self, due, ask, thing)
        self.assertEqual(answers(book.coal()), before)

    def test_how_it_begins(self):
        book = Book()
        self.assertIsInstance(book.coal(), Coal)
        self.assertEqual(book.coal().cells(), [(0, 0)])
        self.assertEqual((book.word(), book.count(), book.rings()), ("rrrrrr", 2, 1))

    def test_put_and_take(self):
        book = Book()
        self.assertIsNone(book.put((0, 1)))
        self.assertIsNone(book.put((-1, 1)))
        self.assertEqual(book.coal().cells(), [(-1, 1), (0, 0), (0, 1)])
        self.assertIsNone(book.take((0, 0)))
        self.assertEqual(book.coal().cells(), [(-1, 1), (0, 1)])
        book.put((0, 0))
        self.assertEqual(book.coal().cells(), [(-1, 1), (0, 0), (0, 1)])

    def test_each_coal(self):
        for coal in coals_to_pair():
            cells = laid_from_nought(coal.cells())
            book = Book()
            for many in range(1, len(cells)):
                book.put(cells[many])
                self.assertEqual(book.coal().cells(), sorted(cells[:many + 1]))
            self.assertEqual(answers(book.coal()), answers(Coal(cells)))
            for many in range(len(cells) - 1, 0, -1):
                book.take(cells[many])
                self.assertEqual(book.coal().cells(), sorted(cells[:many]))

    def test_what_is_no_cell(self):
        for cells in [row(1), FLOWER, BLOCK]:
            book = book_of(cells)
            for thing in NO_CELLS:
                self.check_refused(NoCell, book, book.put, thing)
                self.check_refused(NoCell, book, book.take, thing)

    def test_things_like_a_cell_of_the_coal(self):
        book = Book()
        book.put((1, 0))
        for thing in [(True, 0), (1, False), (True, False), (False, False), [0, 0], [1, 0], (0, 0, 0), "0:0"]:
            self.check_refused(NoCell, book, book.put, thing)
            self.check_refused(NoCell, book, book.take, thing)

    def test_put_twice(self):
        for cells in [row(1), row(3), FLOWER, BLOCK, BRANCHED]:
            book = book_of(cells)
            for cell in book.coal().cells():
                self.check_refused(Twice, book, book.put, cell)

    def test_put_far_off(self):
        for cells in [row(1), row(3), FLOWER]:
            book = book_of(cells)
            for cell in [(50, 0), (0, -50), (BIG, BIG), (-BIG, 0), (10 ** 20, -10 ** 20)]:
                self.check_refused(NoCoal, book, book.put, cell)
        book = Book()
        for cell in [(2, 0), (1, 1), (-1, -1), (2, -1), (0, 2), (-2, 1)]:
            self.check_refused(NoCoal, book, book.put, cell)

    def test_put_that_makes_a_hole(self):
        book = Book()
        for cell in [(0, 1), (1, 1), (2, 0), (2, -1)]:
            book.put(cell)
        self.check_refused(NoCoal, book, book.put, (1, -1))
        book.put((1, 0))
        book.put((1, -1))
        self.assertEqual(book.coal().cells(), sorted(moved(FLOWER, 1, 0)))

    def test_a_fifteenth_cell(self):
        for cells in big_coals():
            book = book_of(cells)
            self.assertEqual(book.coal().many(), 14)
            taken = book.coal().cells()
            for a, b in taken[::4]:
                for cell in [(a + 1, b), (a, b - 1), (a - 1, b + 1)]:
                    self.check_refused(Twice if cell in taken else NoCoal, book, book.put, cell)

    def test_take_what_is_not_in_it(self):
        for cells in [row(1), row(3), FLOWER, BLOCK]:
            book = book_of(cells)
            for cell in [(20, 0), (0, 20), (-1, -1), (BIG, -BIG)]:
                self.check_refused(NoCell, book, book.take, cell)

    def test_take_the_last_cell(self):
        book = Book()
        self.check_refused(NoCoal, book, book.take, (0, 0))
        book.put((1, -1))
        book.take((0, 0))
        self.check_refused(NoCoal, book, book.take, (1, -1))
        self.check_refused(NoCell, book, book.take, (0, 0))

    def test_take_what_would_part_the_coal(self):
        book = book_of(row(14))
        for cell in row(12, 1):
            self.check_refused(NoCoal, book, book.take, cell)
        book.take((13, 0))
        book.take((0, 0))
        self.assertEqual(book.coal().cells(), row(12, 1))

    def test_take_what_would_leave_a_hole(self):
        book = book_of([(0, 0)] + RING)
        self.check_refused(NoCoal, book, book.take, (0, 0))
        book.take((1, 0))
        book.take((0, 0))
        self.assertEqual(book.coal().many(), 5)

    def test_each_cell_taken_or_refused(self):
        for cells in [FLOWER, BLOCK, TRIANGLE, BENT, ZIGZAG, BRANCHED, grown(14, 4)]:
            for place in range(len(cells)):
                book = book_of(cells)
                cell = sorted(book.coal().cells())[place]
                left = [other for other in book.coal().cells() if other != cell]
                if refusal(Coal, left) is None:
                    book.take(cell)
                    self.assertEqual(book.coal().cells(), left)
                else:
                    self.check_refused(NoCoal, book, book.take, cell)

    def test_a_refusal_leaves_what_was_kept(self):
        book = book_of(FLOWER)
        book.count()
        for thing in [None, (0, 0), (50, 50)]:
            self.assertIsNotNone(refusal(book.put, thing))
        for thing in [None, (50, 50)]:
            self.assertIsNotNone(refusal(book.take, thing))
        self.assertEqual((book.count(), book.rings()), (20, 3))
        self.assertEqual(book.news(), [f"count {word_of(FLOWER)}", f"rings {word_of(FLOWER)}"])

    def test_a_coal_told_ahead_stays(self):
        book = Book()
        told = []
        for cell in laid_from_nought(FLOWER)[1:]:
            coal = book.coal()
            told.append((coal, answers(coal)))
            book.put(cell)
        for cell in in_order(book.coal().cells())[:0:-1]:
            coal = book.coal()
            told.append((coal, answers(coal)))
            book.take(cell)
        for coal, due in told:
            self.assertEqual(answers(coal), due)

    def test_told_lists_that_are_changed(self):
        book = book_of([(0, 0)] + RING)
        before = answers(book.coal())
        spoil(answers(book.coal()))
        spoil(book.coal().cells())
        self.assertEqual(answers(book.coal()), before)
        book.put((2, 0))
        self.assertEqual(book.coal().cells(), sorted(FLOWER + [(2, 0)]))

    def test_names_of_arguments(self):
        book = Book()
        book.put(cell=(1, 0))
        book.take(cell=(0, 0))
        self.assertEqual(book.coal().cells(), [(1, 0)])


class WhatIsTold(unittest.TestCase):

    def test_each_coal(self):
        sizes = set()
        for coal in coals_to_pair():
            book = book_of(coal.cells())
            self.assertEqual(book.word(), least_word(rim(coal)))
            found = pairings_anew(coal)
            told = book.count()
            self.assertIs(type(told), int)
            self.assertEqual(told, len(found))
            told = book.rings()
            self.assertEqual(told, most_ringed_anew(coal))
            self.assertIs(type(told), int if found else type(None))
            sizes.add((coal.many(), bool(found)))
        self.assertGreaterEqual(sizes, {(many, True) for many in range(1, 15)})
        self.assertGreaterEqual(sizes, {(3, False), (10, False), (11, False), (14, False)})

    def test_none_where_there_is_no_pairing(self):
        for cells in [THREE_ROUND_A_POINT, TRIANGLE, GOBLET]:
            book = book_of(cells)
            self.assertEqual((book.count(), book.rings()), (0, None))
            self.assertEqual((book.count(), book.rings()), (0, None))

    def test_as_cells_are_put_and_taken(self):
        book = Book()
        told = [(book.word(), book.count(), book.rings())]
        for cell in [(1, 0), (0, 1), (1, 1)]:
            book.put(cell)
            told.append((book.word(), book.count(), book.rings()))
        book.take((0, 1))
        told.append((book.word(), book.count(), book.rings()))
        due = []
        for cells in [row(1), row(2), THREE_ROUND_A_POINT, row(2) + [(0, 1), (1, 1)], row(2) + [(1, 1)]]:
            coal = Coal(cells)
            due.append((word_of(cells), len(pairings_anew(coal)), most_ringed_anew(coal)))
        self.assertEqual(told, due)


class News(unittest.TestCase):

    def test_none_at_the_beginning(self):
        book = Book()
        told = book.news()
        self.assertIs(type(told), list)
        self.assertEqual(told, [])

    def test_in_the_order_reckoned(self):
        book = Book()
        book.rings()
        book.count()
        book.put((1, 0))
        book.count()
        book.rings()
        one, two = word_of(row(1)), word_of(row(2))
        self.assertEqual(book.news(), [f"rings {one}", f"count {one}", f"count {two}", f"rings {two}"])
        self.assertEqual(one, "rrrrrr")
        self.assertEqual(two, "lrrrrlrrrr")

    def test_each_time_only_what_is_new(self):
        book = Book()
        book.count()
        self.assertEqual(book.news(), ["count rrrrrr"])
        self.assertEqual(book.news(), [])
        book.count()
        self.assertEqual(book.news(), [])
        book.rings()
        self.assertEqual(book.news(), ["rings rrrrrr"])
        book.rings()
        book.count()
        self.assertEqual(book.news(), [])

    def test_only_of_these_two(self):
        book = Book()
        book.word()
        book.coal()
        book.put((1, 0))
        book.take((0, 0))
        refusal(book.put, None)
        refusal(book.take, (9, 9))
        self.assertEqual(book.news(), [])

    def test_the_one_tells_nothing_of_the_other(self):
        book = book_of(FLOWER)
        book.rings()
        self.assertEqual(book.news(), [f"rings {word_of(FLOWER)}"])
        book.count()
        self.assertEqual(book.news(), [f"count {word_of(FLOWER)}"])

    def test_coals_alike(self):
        for cells in [row(3), [(0, 0), (1, 0), (1, 1), (2, 1)], grown(7, 2), BRANCHED, grown(14, 5)]:
            book = book_of(cells)
            told = (book.count(), book.rings())
            book.news()
            for way in range(12):
                go_over(book, turned(cells, way))
                self.assertEqual(turned(book.coal().cells(), 0), turned(cells, way))
                self.assertEqual((book.count(), book.rings()), told)
                self.assertEqual(book.news(), [])

    def test_a_coal_laid_elsewhere(self):
        book = Book()
        book.count()
        book.rings()
        book.put((1, 0))
        book.take((0, 0))
        book.count()
        book.rings()
        self.assertEqual(book.news(), ["count rrrrrr", "rings rrrrrr"])

    def test_nought_and_none_are_kept(self):
        for cells in [THREE_ROUND_A_POINT, GOBLET]:
            book = book_of(cells)
            self.assertEqual((book.rings(), book.count()), (None, 0))
            word = word_of(cells)
            self.assertEqual(book.news(), [f"rings {word}", f"count {word}"])
            self.assertEqual((book.rings(), book.count()), (None, 0))
            go_over(book, turned(cells, 7))
            self.assertEqual((book.rings(), book.count()), (None, 0))
            self.assertEqual(book.news(), [])

    def test_back_to_a_coal_asked_before(self):
        book = Book()
        book.count()
        book.put((1, 0))
        book.rings()
        book.take((1, 0))
        book.count()
        book.rings()
        book.put((0, 1))
        book.rings()
        book.count()
        one, two = word_of(row(1)), word_of(row(2))
        self.assertEqual(book.news(), [f"count {one}", f"rings {two}", f"rings {one}", f"count {two}"])

    def test_every_coal_of_four_cells_once(self):
        book = Book()
        due = []
        for coal in coals_to_pair()[:60]:
            go_over(book, coal.cells())
            book.count()
            text = f"count {least_word(rim(coal))}"
            if text not in due:
                due.append(text)
        self.assertGreater(len(due), 9)
        self.assertEqual(book.news(), due)

    def test_nothing_is_reckoned_again(self):
        with mock.patch("sootring.book.how_many", return_value=77) as counted, \
                mock.patch("sootring.book.most_ringed", return_value=([0], [], [])) as ringed:
            book = book_of(FLOWER)
            for way in range(12):
                go_over(book, turned(FLOWER, way))
                self.assertEqual((book.count(), book.rings()), (77, 1))
            self.assertEqual((counted.call_count, ringed.call_count), (1, 1))

    def test_two_books(self):
        one, other = Book(), Book()
        one.count()
        one.put((1, 0))
        self.assertEqual(other.coal().cells(), [(0, 0)])
        self.assertEqual(other.news(), [])
        other.count()
        self.assertEqual(other.news(), ["count rrrrrr"])
        self.assertEqual(one.news(), ["count rrrrrr"])
        self.assertEqual(Book().news(), [])

    def test_told_lists_that_are_changed(self):
        book = Book()
        book.count()
        told = book.news()
        told.append("count x")
        book.rings()
        self.assertEqual(told, ["count rrrrrr", "count x"])
        self.assertEqual(book.news(), ["rings rrrrrr"])
        book.news().append("count y")
        self.assertEqual(book.news(), [])
        kept = book.news()
        book.put((1, 0))
        book.count()
        self.assertEqual(kept, [])


if __name__ == "__main__":
    unittest.main()
