"""Corners of cells, light and dark [9]."""

import unittest

from helper import BIG
from sootring.cells import beside
from sootring.points import corners_of, is_light

SOME_CELLS = [(0, 0), (3, 5), (-2, 7), (4, -1), (-6, -6), (BIG, -BIG), (-BIG, BIG), (0, BIG)]


def side(cell, k):
    """The two corners of a side."""
    corners = corners_of(cell)
    return [corners[k], corners[(k + 1) % 6]]


class Corners(unittest.TestCase):

    def test_order(self):
        self.assertEqual(corners_of((0, 0)), [(0, 0, 0), (1, -1, 1), (0, 1, 0), (0, 0, 1), (-1, 1, 0), (0, -1, 1)])
        self.assertEqual(corners_of((4, -7)), [
            (4, -7, 0), (5, -8, 1), (4, -6, 0), (4, -7, 1), (3, -6, 0), (4, -8, 1),
        ])

    def test_order_of_big_cells(self):
        big = 10 ** 59
        self.assertEqual(corners_of((-big, big)), [
            (-big, big, 0), (1 - big, big - 1, 1), (-big, big + 1, 0),
            (-big, big, 1), (-big - 1, big + 1, 0), (-big, big - 1, 1),
        ])

    def test_six_unlike_points_in_a_list(self):
        for cell in SOME_CELLS:
            told = corners_of(cell)
            self.assertIs(type(told), list)
            self.assertTrue(all(type(point) is tuple and len(point) == 3 for point in told))
            self.assertEqual(len(set(told)), 6)

    def test_light_and_dark_by_turns(self):
        for cell in SOME_CELLS:
            told = [is_light(point) for point in corners_of(cell)]
            self.assertEqual(told, [True, False, True, False, True, False])

    def test_light_is_told_by_the_last_number(self):
        for a, b in [(0, 1), (1, 0), (-3, 1), (BIG, -BIG)]:
            self.assertIs(is_light((a, b, 0)), True)
            self.assertIs(is_light((a, b, 1)), False)

    def test_told_list_is_new(self):
        corners_of((0, 0)).clear()
        self.assertEqual(len(corners_of((0, 0))), 6)

    def test_names_of_arguments(self):
        self.assertEqual(len(corners_of(cell=(0, 0))), 6)
        self.assertIs(is_light(point=(0, 0, 0)), True)


class Sides(unittest.TestCase):

    def test_neighbours_have_two_corners_in_common(self):
        for cell in SOME_CELLS:
            for k, other in enumerate(beside(cell)):
                common = set(corners_of(cell)) & set(corners_of(other))
                self.assertEqual(common, set(side(cell, k)))

    def test_side_of_a_cell_is_a_side_of_its_neighbour(self):
        for cell in SOME_CELLS:
            for k, other in enumerate(beside(cell)):
                self.assertEqual(side(other, (k + 3) % 6), side(cell, k)[::-1])

    def test_others_have_none_in_common(self):
        for a in range(-3, 4):
            for b in range(-3, 4):
                if (a, b) != (0, 0) and (a, b) not in beside((0, 0)):
                    self.assertEqual(set(corners_of((a, b))) & set(corners_of((0, 0))), set())

    def test_each_side_has_a_light_and_a_dark_end(self):
        for cell in SOME_CELLS:
            for k in range(6):
                self.assertEqual(sorted(is_light(point) for point in side(cell, k)), [False, True])


if __name__ == "__main__":
    unittest.main()
