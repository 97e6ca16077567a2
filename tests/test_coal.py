"""How a coal is made or refused [7], its points and ties [10, 11], and that it never changes [2]."""

import copy
import unittest

from helper import (
    BENT, BIG, BLOCK, FLOWER, LONG_RING, NO_CELLS, RING, TRIANGLE, TWO_RINGS, answers, mixed, moved, refusal, row,
    shapes, some_coals,
)
from sootring.cells import beside
from sootring.coal import MOST_CELLS, Coal
from sootring.errors import NoCell, NoCoal, NoNumber, Twice
from sootring.points import corners_of, is_light


class Making(unittest.TestCase):

    def test_most_cells(self):
        self.assertEqual(MOST_CELLS, 14)
        self.assertIs(type(MOST_CELLS), int)

    def test_cells_are_told_sorted(self):
        for cells in some_coals():
            for given in [cells, cells[::-1], mixed(cells)]:
                coal = Coal(given)
                self.assertEqual(coal.cells(), sorted(cells))
                self.assertEqual(coal.many(), len(cells))

    def test_one_cell(self):
        for cell in [(0, 0), (-5, 2), (BIG, BIG), (-BIG, BIG)]:
            self.assertEqual(Coal([cell]).cells(), [cell])
            self.assertEqual(Coal([cell]).many(), 1)

    def test_fourteen_cells(self):
        for cells in [row(14), row(14, 0, 0, (0, 1)), row(14, 3, 3, (-1, 1)), BLOCK, BENT]:
            self.assertEqual(Coal(mixed(cells)).many(), 14)

    def test_every_small_list_that_hangs_together(self):
        made = [sum(refusal(Coal, cells) is None for cells in lists) for many, lists in shapes(6)]
        # Of six cells the ring alone has a hole.
        self.assertEqual(made, [1, 3, 11, 44, 186, 814 - 1])

    def test_name_of_argument(self):
        self.assertEqual(Coal(cells=[(0, 0)]).many(), 1)


class Refusing(unittest.TestCase):

    def check(self, cells, due):
        before = copy.deepcopy(cells)
        self.assertIs(refusal(Coal, cells), due)
        self.assertEqual(cells, before)

    def test_a_thing_that_is_no_cell(self):
        for thing in NO_CELLS:
            with self.subTest(repr(thing)):
                self.check([thing], NoCell)
                self.check([(0, 0), thing], NoCell)
                self.check([thing, (0, 0), (1, 0)], NoCell)

    def test_no_cell_comes_ahead_of_all(self):
        for thing in NO_CELLS:
            with self.subTest(repr(thing)):
                self.check([(0, 0), (0, 0), thing], NoCell)
                self.check([thing, thing], NoCell)
                self.check(row(15) + [thing], NoCell)
                self.check([(0, 0), (5, 5), thing], NoCell)
                self.check(RING + [thing], NoCell)
                self.check(row(199) + [thing], NoCell)

    def test_truths_that_are_like_numbers(self):
        self.check([(0, 1), (0, True)], NoCell)
        self.check([(False, 1), (0, 1)], NoCell)

    def test_a_cell_twice(self):
        self.check([(0, 0), (0, 0)], Twice)
        self.check([(0, 0), (1, 0), (0, 0)], Twice)
        self.check([(BIG, -BIG), (BIG - 1, -BIG), (BIG, -BIG)], Twice)
        self.check(row(13) + [(12, 0)], Twice)

    def test_twice_comes_ahead_of_no_coal(self):
        self.check(row(14) + [(0, 0)], Twice)
        self.check(row(15) + [(7, 0)], Twice)
        self.check([(0, 0), (5, 5), (5, 5)], Twice)
        self.check(RING + RING[:1], Twice)
        self.check([(0, 0)] * 15, Twice)
        self.check([(0, 0)] * 200, Twice)
        self.check([(0, 0), (BIG, BIG), (0, 0)], Twice)

    def test_no_cells(self):
        self.check([], NoCoal)

    def test_too_many_cells(self):
        self.check(row(15), NoCoal)
        self.check(row(200), NoCoal)
        self.check(BENT + [(5, 1)], NoCoal)

    def test_two_parts(self):
        self.check([(0, 0), (1, 1)], NoCoal)
        self.check([(0, 0), (2, 0)], NoCoal)
        self.check([(0, 0), (2, -1)], NoCoal)
        self.check(row(7) + row(7, 0, 2), NoCoal)
        self.check([(0, 0), (BIG, BIG)], NoCoal)
        self.check([(-BIG, 0), (BIG, 0)], NoCoal)

    def test_a_hole(self):
        self.check(RING, NoCoal)
        self.check(mixed(moved(RING, 10 ** 59, -10 ** 59)), NoCoal)
        self.check(LONG_RING, NoCoal)
        self.check(TWO_RINGS, NoCoal)
        self.check(RING + row(8, 2, 0), NoCoal)

    def test_two_parts_with_a_hole_round_one(self):
        inner = set(FLOWER)
        outer = {other for cell in RING for other in beside(cell)} - inner
        self.check(sorted(outer) + [(0, 0)], NoCoal)


class KnownCoals(unittest.TestCase):
    """Coals whose answers were reckoned by hand."""

    def test_one_cell(self):
        coal = Coal([(0, 0)])
        self.assertEqual(coal.points(), [(-1, 1, 0), (0, -1, 1), (0, 0, 0), (0, 0, 1), (0, 1, 0), (1, -1, 1)])
        self.assertEqual(coal.ties(), [(0, 1), (0, 3), (1, 2), (2, 5), (3, 4), (4, 5)])
        self.assertEqual(coal.corners(0), [2, 5, 4, 3, 0, 1])
        self.assertEqual(coal.sides(0), [3, 5, 4, 1, 0, 2])
        self.assertEqual([coal.near(k) for k in range(6)], [[1, 3], [0, 2], [1, 5], [0, 4], [3, 5], [2, 4]])

    def test_two_cells(self):
        coal = Coal([(1, 0), (0, 0)])
        self.assertEqual(coal.points(), [
            (-1, 1, 0), (0, -1, 1), (0, 0, 0), (0, 0, 1), (0, 1, 0),
            (1, -1, 1), (1, 0, 0), (1, 0, 1), (1, 1, 0), (2, -1, 1),
        ])
        self.assertEqual(coal.ties(), [
            (0, 1), (0, 3), (1, 2), (2, 5), (3, 4), (4, 5), (4, 7), (5, 6), (6, 9), (7, 8), (8, 9),
        ])
        self.assertEqual(coal.corners(0), [2, 5, 4, 3, 0, 1])
        self.assertEqual(coal.corners(1), [6, 9, 8, 7, 4, 5])
        self.assertEqual(coal.sides(0), [3, 5, 4, 1, 0, 2])
        self.assertEqual(coal.sides(1), [8, 10, 9, 6, 5, 7])
        self.assertEqual(coal.near(4), [3, 5, 7])
        self.assertEqual(coal.near(5), [2, 4, 6])
        self.assertEqual(coal.near(9), [6, 8])


class PointsAndTies(unittest.TestCase):

    def setUp(self):
        self.coals = [Coal(mixed(cells)) for cells in some_coals()]

    def test_points_are_all_corners_once_and_sorted(self):
        for coal in self.coals:
            corners = {point for cell in coal.cells() for point in corners_of(cell)}
            self.assertEqual(coal.points(), sorted(corners))

    def test_corners_are_numbers_of_points(self):
        for coal in self.coals:
            points = coal.points()
            for number, cell in enumerate(coal.cells()):
                self.assertEqual([points[k] for k in coal.corners(number)], corners_of(cell))

    def test_ties_are_all_sides_once_and_sorted(self):
        for coal in self.coals:
            points = coal.points()
            sides = set()
            for cell in coal.cells():
                corners = corners_of(cell)
                for k in range(6):
                    ends = [points.index(corners[k]), points.index(corners[k - 1])]
                    sides.add(tuple(sorted(ends)))
            self.assertEqual(coal.ties(), sorted(sides))
            self.assertTrue(all(i < j for i, j in coal.ties()))

    def test_sides_are_numbers_of_ties(self):
        for coal in self.coals:
            ties = coal.ties()
            for number in range(coal.many()):
                corners = coal.corners(number)
                sides = coal.sides(number)
                self.assertEqual(len(sides), 6)
                for k in range(6):
                    self.assertEqual(set(ties[sides[k]]), {corners[k], corners[(k + 1) % 6]})

    def test_neighbours_have_a_tie_in_common(self):
        for coal in self.coals:
            cells = coal.cells()
            for number, cell in enumerate(cells):
                for k, other in enumerate(beside(cell)):
                    if other in cells:
                        told = coal.sides(cells.index(other))[(k + 3) % 6]
                        self.assertEqual(coal.sides(number)[k], told)

    def test_near(self):
        for coal in self.coals:
            ties = coal.ties()
            for point in range(len(coal.points())):
                others = [i + j - point for i, j in ties if point in (i, j)]
                self.assertEqual(coal.near(point), sorted(others))
                self.assertIn(len(others), (2, 3))

    def test_ties_lead_from_light_to_dark(self):
        for coal in self.coals:
            points = coal.points()
            for i, j in coal.ties():
                self.assertNotEqual(is_light(points[i]), is_light(points[j]))

    def test_kinds(self):
        for coal in self.coals:
            told = [coal.cells(), coal.points(), coal.ties(), coal.corners(0), coal.sides(0), coal.near(0)]
            self.assertTrue(all(type(some) is list for some in told))
            self.assertTrue(all(type(thing) is tuple for some in told[:3] for thing in some))
            self.assertTrue(all(type(number) is int for some in told[3:] for number in some))

    def test_names_of_arguments(self):
        coal = Coal([(0, 0)])
        self.assertEqual(coal.corners(cell=0), coal.corners(0))
        self.assertEqual(coal.sides(cell=0), coal.sides(0))
        self.assertEqual(coal.near(point=0), coal.near(0))

    def test_as_many_points_as_ties_less_cells_and_one(self):
        for coal in self.coals:
            self.assertEqual(len(coal.points()), len(coal.ties()) - coal.many() + 1)

    def test_as_many_points_as_are_known(self):
        known = [(row(1), 6, 6), (row(2), 10, 11), (row(14), 58, 71), (FLOWER, 24, 30), (TRIANGLE, 33, 42)]
        for cells, points, ties in known:
            coal = Coal(cells)
            self.assertEqual((len(coal.points()), len(coal.ties())), (points, ties))


class Numbers(unittest.TestCase):

    def check(self, ask, many):
        for number in range(many):
            self.assertIsNone(refusal(ask, number))
        for number in [many, many + 1, -1, -2, -many, -many - 1, 10 ** 20, -10 ** 20, BIG, -BIG]:
            self.assertIs(refusal(ask, number), NoNumber)

    def test_numbers_of_none(self):
        for cells in some_coals():
            coal = Coal(cells)
            self.check(coal.corners, coal.many())
            self.check(coal.sides, coal.many())
            self.check(coal.near, len(coal.points()))

    def test_what_is_refused_changes_nothing(self):
        coal = Coal(FLOWER)
        before = answers(coal)
        for ask in [coal.corners, coal.sides, coal.near]:
            refusal(ask, -1)
            refusal(ask, 99)
        self.assertEqual(answers(coal), before)


class NeverChanging(unittest.TestCase):

    def test_the_list_handed_in_stays_as_it_is(self):
        for cells in some_coals():
            given = mixed(cells)
            before = list(given)
            answers(Coal(given))
            self.assertEqual(given, before)

    def test_a_list_changed_afterwards(self):
        given = mixed(FLOWER)
        coal = Coal(given)
        before = answers(coal)
        given.append((9, 9))
        given[0] = (7, 7)
        given.reverse()
        self.assertEqual(answers(coal), before)
        given.clear()
        self.assertEqual(answers(coal), before)

    def test_told_lists_that_are_changed(self):
        coal = Coal(FLOWER)
        before = copy.deepcopy(answers(coal))
        told = answers(coal)
        for some in told:
            if isinstance(some, list):
                for inner in some:
                    if isinstance(inner, list):
                        inner.reverse()
                        inner.append(99)
                some.reverse()
                some.pop()
        self.assertEqual(answers(coal), before)

    def test_a_told_list_is_no_other_one(self):
        coal = Coal(FLOWER)
        for ask in [coal.cells, coal.points, coal.ties]:
            self.assertIsNot(ask(), ask())
        for ask in [coal.corners, coal.sides, coal.near]:
            self.assertIsNot(ask(0), ask(0))

    def test_coals_keep_apart(self):
        one = Coal([(0, 0)])
        before = answers(one)
        other = Coal(FLOWER)
        other.cells().clear()
        self.assertEqual(answers(one), before)
        self.assertEqual(answers(Coal([(0, 0)])), before)

    def test_told_cells_may_be_handed_in_again(self):
        for cells in some_coals():
            coal = Coal(cells)
            self.assertEqual(answers(Coal(coal.cells())), answers(coal))


if __name__ == "__main__":
    unittest.main()
