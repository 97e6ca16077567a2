"""Cells and neighbours [4], parts [5], holes [6], and what [2] says of the lists."""

import copy
import unittest

from helper import (
    BIG, LONG_RING, NO_CELLS, RING, STEPS, TWO_RINGS, mixed, moved, parts_anew, row, shapes, subsets,
)
from sootring.cells import beside, holes, is_cell, parts
from sootring.points import corners_of

SOME_CELLS = [
    (0, 0), (1, 2), (-1, -2), (5, -9), (-7, 3), (0, -1), (1, 1),
    (BIG, BIG), (-BIG, BIG), (BIG, -BIG), (-BIG, -BIG), (0, BIG), (-BIG, 1),
]


class Cells(unittest.TestCase):

    def test_cells_are_cells(self):
        for cell in SOME_CELLS:
            with self.subTest(cell):
                self.assertIs(is_cell(cell), True)

    def test_other_things_are_none(self):
        for thing in NO_CELLS:
            with self.subTest(repr(thing)):
                self.assertIs(is_cell(thing), False)

    def test_asking_changes_nothing(self):
        for thing in copy.deepcopy(NO_CELLS):
            before = copy.deepcopy(thing)
            is_cell(thing)
            self.assertEqual(thing, before)

    def test_names_of_arguments(self):
        self.assertIs(is_cell(thing=(0, 0)), True)
        self.assertEqual(len(beside(cell=(0, 0))), 6)
        self.assertEqual(parts(cells=[(0, 0)]), [[(0, 0)]])
        self.assertEqual(holes(cells=[(0, 0)]), [])


class Neighbours(unittest.TestCase):

    def test_order(self):
        self.assertEqual(beside((0, 0)), [(1, -1), (1, 0), (0, 1), (-1, 1), (-1, 0), (0, -1)])
        self.assertEqual(beside((5, -9)), [(6, -10), (6, -9), (5, -8), (4, -8), (4, -9), (5, -10)])

    def test_order_of_big_cells(self):
        big = 10 ** 59
        told = beside((big, -big))
        self.assertEqual(told, [
            (big + 1, -big - 1), (big + 1, -big), (big, 1 - big),
            (big - 1, 1 - big), (big - 1, -big), (big, -big - 1),
        ])

    def test_a_list_of_six_unlike_cells(self):
        for cell in SOME_CELLS:
            told = beside(cell)
            self.assertIs(type(told), list)
            self.assertTrue(all(is_cell(other) for other in told))
            self.assertEqual({(a - cell[0], b - cell[1]) for a, b in told}, STEPS)

    def test_each_cell_is_neighbour_of_its_neighbour(self):
        for cell in SOME_CELLS:
            for k, other in enumerate(beside(cell)):
                self.assertEqual(beside(other)[(k + 3) % 6], cell)

    def test_told_list_is_new(self):
        told = beside((0, 0))
        told.clear()
        self.assertEqual(len(beside((0, 0))), 6)


class Parts(unittest.TestCase):

    def check(self, cells):
        """What [5] says of the parts of any list of unlike cells."""
        before = list(cells)
        told = parts(cells)
        self.assertEqual(cells, before)
        self.assertIs(type(told), list)
        self.assertTrue(all(type(part) is list for part in told))
        self.assertEqual(told, parts_anew(before))
        self.assertEqual(sorted(sum(told, [])), sorted(before))

    def test_no_cells(self):
        self.assertEqual(parts([]), [])

    def test_one_cell(self):
        for cell in SOME_CELLS:
            self.assertEqual(parts([cell]), [[cell]])

    def test_one_part(self):
        self.assertEqual(parts([(1, 0), (0, 0), (2, 0)]), [[(0, 0), (1, 0), (2, 0)]])
        self.assertEqual(parts(RING), [sorted(RING)])

    def test_each_neighbour_hangs_on(self):
        for cell in SOME_CELLS:
            for other in beside(cell):
                self.assertEqual(parts([cell, other]), [sorted([cell, other])])

    def test_cells_that_only_seem_close(self):
        self.assertEqual(parts([(1, 1), (0, 0)]), [[(0, 0)], [(1, 1)]])
        self.assertEqual(parts([(-1, -1), (0, 0)]), [[(-1, -1)], [(0, 0)]])
        self.assertEqual(parts([(0, 0), (2, -1)]), [[(0, 0)], [(2, -1)]])

    def test_several_parts(self):
        cells = [(9, 9), (0, 1), (-4, 0), (0, 0), (9, 10), (-5, 1), (3, -3)]
        self.assertEqual(parts(cells), [
            [(-5, 1), (-4, 0)], [(0, 0), (0, 1)], [(3, -3)], [(9, 9), (9, 10)],
        ])

    def test_every_choice_out_of_a_block(self):
        block = [(a, b) for a in range(3) for b in range(4)]
        for cells in subsets(block):
            self.check(mixed(cells))

    def test_two_hundred_cells_in_one_part(self):
        for step in STEPS:
            cells = row(200, -3, 5, step)
            self.assertEqual(parts(mixed(cells)), [sorted(cells)])

    def test_two_hundred_parts(self):
        cells = [(2 * a, 2 * b) for a in range(-10, 10) for b in range(-5, 5)]
        self.assertEqual(parts(mixed(cells)), [[cell] for cell in sorted(cells)])

    def test_two_hundred_cells_in_several_parts(self):
        self.check(mixed(row(60) + row(60, 90, 4, (1, -1)) + row(40, -100, 7, (0, 1)) + row(40, -100, -7)))
        self.check(mixed([(a, b) for a in range(20) for b in range(10)]))
        self.check(mixed([(a, b) for a in range(25) for b in range(25) if (a * 7 + b * b) % 3 == 0][:200]))

    def test_big_numbers(self):
        cells = [(BIG, -BIG), (-BIG, BIG), (BIG - 1, -BIG), (-BIG, BIG - 1), (0, 0), (BIG, BIG)]
        self.assertEqual(parts(cells), [
            [(-BIG, BIG - 1), (-BIG, BIG)], [(0, 0)], [(BIG - 1, -BIG), (BIG, -BIG)], [(BIG, BIG)],
        ])

    def test_told_lists_are_new(self):
        cells = [(0, 0), (5, 5), (1, 0)]
        told = parts(cells)
        told[0].append((7, 7))
        told[1].clear()
        told.append([])
        self.assertEqual(cells, [(0, 0), (5, 5), (1, 0)])
        self.assertEqual(parts(cells), [[(0, 0), (1, 0)], [(5, 5)]])

    def test_told_lists_stay_as_they_are(self):
        cells = [(0, 0)]
        told = parts(cells)
        cells.append((1, 0))
        parts(cells)
        self.assertEqual(told, [[(0, 0)]])


def euler_holes(cells):
    """How many holes some cells that hang together have, by their points and sides."""
    points = set()
    sides = set()
    for cell in cells:
        corners = corners_of(cell)
        points.update(corners)
        sides.update(frozenset([corners[k], corners[k - 1]]) for k in range(6))
    return 1 - len(points) + len(sides) - len(cells)


def holes_anew(cells):
    """The holes of some cells: all others from which no way leads out of the box round the cells."""
    firsts = [a for a, b in cells]
    seconds = [b for a, b in cells]
    box = [(a, b) for a in range(min(firsts), max(firsts) + 1) for b in range(min(seconds), max(seconds) + 1)]
    return parts_anew([cell for cell in box if cell not in cells and not escapes(cell, cells, box)])


def escapes(cell, cells, box):
    seen = [cell]
    for here in seen:
        if here not in box:
            return True
        around = [(here[0] + a, here[1] + b) for a, b in STEPS]
        seen.extend(other for other in around if other not in cells and other not in seen)
    return False


class Holes(unittest.TestCase):

    def check(self, cells, due):
        """The holes, wherever the cells lie and in whatever order they come."""
        for a, b in [(0, 0), (-4, 9), (10 ** 59, -10 ** 59)]:
            given = mixed(moved(cells, a, b))
            before = list(given)
            told = holes(given)
            self.assertEqual(given, before)
            self.assertEqual(told, [moved(hole, a, b) for hole in due])

    def test_without_one(self):
        self.check([(0, 0)], [])
        self.check(RING + [(0, 0)], [])
        for cell in RING:
            self.check([other for other in RING if other != cell], [])

    def test_straight_rows_of_thirty(self):
        for step in STEPS:
            self.check(row(30, 0, 0, step), [])

    def test_blocks_without_one(self):
        self.check([(a, b) for a in range(5) for b in range(6)], [])
        self.check([(a, b) for a in range(6) for b in range(6) if a + b < 6], [])

    def test_with_one(self):
        self.check(RING, [[(0, 0)]])

    def test_an_arm_makes_no_more(self):
        self.check(RING + row(10, 2, 0), [[(0, 0)]])

    def test_with_two(self):
        self.check(TWO_RINGS, [[(0, 0)], [(2, 0)]])
        self.check(moved(RING, 0, 8) + row(5, 0, 3, (0, 1)) + moved(RING, 0, 1), [[(0, 1)], [(0, 8)]])

    def test_with_two_in_the_order_of_first_cells(self):
        far_ring = moved(RING, -3, 7)
        bridge = [(0, 2), (-1, 3), (-1, 4), (-2, 5)]
        self.check(RING + bridge + far_ring, [[(-3, 7)], [(0, 0)]])

    def test_with_a_hole_of_two_cells(self):
        self.check(LONG_RING, [[(0, 0), (1, 0)]])

    def test_with_a_hole_of_seven_cells(self):
        inner = sorted(RING + [(0, 0)])
        outer = sorted({other for cell in RING for other in beside(cell)} - set(inner))
        self.assertEqual(len(outer), 12)
        self.check(outer, [inner])

    def test_with_holes_of_one_and_of_two_cells(self):
        cells = sorted(set(LONG_RING) | set(moved(RING, 3, 0)))
        self.check(cells, [[(0, 0), (1, 0)], [(3, 0)]])

    def test_a_wide_hole_of_thirty_cells_round(self):
        walls = {(a, b) for a in range(9) for b in range(8) if a in (0, 8) or b in (0, 7)}
        self.assertEqual(len(walls), 30)
        self.check(sorted(walls), [[(a, b) for a in range(1, 8) for b in range(1, 7)]])

    def test_a_spiral_has_none(self):
        spiral = row(7) + row(5, 6, 1, (0, 1)) + row(6, 5, 5, (-1, 0)) + row(3, 0, 4, (0, -1)) + row(4, 1, 2)
        self.assertEqual(parts_anew(spiral), [sorted(spiral)])
        self.check(spiral, [])

    def test_every_choice_out_of_a_block(self):
        block = [(a, b) for a in range(3) for b in range(4)]
        with_hole = 0
        for cells in subsets(block):
            if len(parts_anew(cells)) == 1:
                told = holes(cells)
                with_hole += told != []
                self.assertEqual(told, holes_anew(cells))
        self.assertGreater(with_hole, 0)

    def test_as_many_as_points_and_sides_tell(self):
        for many, lists in shapes(7):
            for cells in lists:
                self.assertEqual(len(holes(cells)), euler_holes(cells))

    def test_told_lists_are_new(self):
        cells = list(TWO_RINGS)
        told = holes(cells)
        told[0].append((9, 9))
        told[1].clear()
        told.pop()
        self.assertEqual(cells, TWO_RINGS)
        self.assertEqual(holes(cells), [[(0, 0)], [(2, 0)]])


if __name__ == "__main__":
    unittest.main()
