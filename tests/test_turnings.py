"""The twelve turnings, and when two coals are alike [8]; what [2] says of the lists."""

import unittest

from helper import (
    BENT, BIG, BLOCK, BRANCHED, FLOWER, GOBLET, TRIANGLE, ZIGZAG, big_coals, check_own, grown, mixed, moved, row,
    shapes, some_coals,
)
from sootring.cells import beside
from sootring.coal import Coal
from sootring.turnings import alike, turned

# Where each of the twelve takes the cell (a, b), reckoned by hand.
WAYS = [
    lambda a, b: (a, b),
    lambda a, b: (-b, a + b),
    lambda a, b: (-a - b, a),
    lambda a, b: (-a, -b),
    lambda a, b: (b, -a - b),
    lambda a, b: (a + b, -a),
    lambda a, b: (b, a),
    lambda a, b: (-a, a + b),
    lambda a, b: (-a - b, b),
    lambda a, b: (-b, -a),
    lambda a, b: (a, -a - b),
    lambda a, b: (a + b, -b),
]

# Lists of cells that don't hang together, of cells far off and of either sign.
APART = [
    [(0, 0), (5, 5)],
    [(3, -7), (-2, 4), (0, 0), (9, 1)],
    [(BIG, -BIG), (-BIG, BIG), (0, 1)],
    [(BIG, BIG), (BIG, BIG - 3), (-BIG, 7), (-5, -BIG)],
    [(-4, -4), (-9, -1), (-2, -30)],
    [(2 * a, 3 * b) for a in range(-10, 10) for b in range(-5, 5)],
]

# A cell with two unlike arms: no turning but the first one lays it on itself.
CROOKED = [(0, 0), (1, 0), (2, 0), (2, 1)]


def laid(cells):
    """The cells laid at the corner, reckoned anew."""
    a = min(cell[0] for cell in cells)
    b = min(cell[1] for cell in cells)
    return sorted((cell[0] - a, cell[1] - b) for cell in cells)


def turned_anew(cells, way):
    return laid([WAYS[way](a, b) for a, b in cells])


def lists_to_turn():
    return some_coals() + big_coals() + APART


class Turned(unittest.TestCase):

    def test_known_turnings(self):
        cells = [(0, 0), (1, 0), (1, 1)]
        self.assertEqual([turned(cells, way) for way in range(12)], [
            [(0, 0), (1, 0), (1, 1)],
            [(0, 2), (1, 0), (1, 1)],
            [(0, 1), (1, 1), (2, 0)],
            [(0, 0), (0, 1), (1, 1)],
            [(0, 1), (0, 2), (1, 0)],
            [(0, 1), (1, 0), (2, 0)],
            [(0, 0), (0, 1), (1, 1)],
            [(0, 1), (0, 2), (1, 0)],
            [(0, 1), (1, 0), (2, 0)],
            [(0, 0), (1, 0), (1, 1)],
            [(0, 2), (1, 0), (1, 1)],
            [(0, 1), (1, 1), (2, 0)],
        ])

    def test_each_of_the_twelve(self):
        for cells in lists_to_turn():
            for way in range(12):
                self.assertEqual(turned(mixed(cells), way), turned_anew(cells, way))

    def test_sorted_and_laid_at_the_corner(self):
        for cells in lists_to_turn():
            for way in range(12):
                told = turned(cells, way)
                self.assertIs(type(told), list)
                self.assertTrue(all(type(cell) is tuple for cell in told))
                self.assertEqual(told, sorted(told))
                self.assertEqual(len(set(told)), len(cells))
                self.assertEqual(min(a for a, b in told), 0)
                self.assertEqual(min(b for a, b in told), 0)

    def test_cells_with_their_numbers_exchanged(self):
        for cells in lists_to_turn():
            exchanged = [(b, a) for a, b in cells]
            for k in range(6):
                self.assertEqual(turned(cells, 6 + k), turned(exchanged, k))

    def test_one_behind_the_other(self):
        for cells in lists_to_turn():
            for one in range(6):
                for other in range(6):
                    self.assertEqual(turned(turned(cells, one), other), turned(cells, (one + other) % 6))

    def test_neighbours_stay_neighbours(self):
        for way in range(12):
            for cell in beside((0, 0)):
                told = turned([(0, 0), cell], way)
                self.assertIn(told[1], beside(told[0]))

    def test_turning_one_takes_each_neighbour_to_the_next(self):
        for k, cell in enumerate(beside((0, 0))):
            due = beside((0, 0))[(k + 1) % 6]
            self.assertEqual(turned([(0, 0), cell, (7 * cell[0], 7 * cell[1])], 1),
                             laid([(0, 0), due, (7 * due[0], 7 * due[1])]))

    def test_one_cell(self):
        for cell in [(0, 0), (5, -3), (BIG, -BIG), (-BIG, BIG)]:
            for way in range(12):
                self.assertEqual(turned([cell], way), [(0, 0)])

    def test_wherever_they_lie(self):
        for cells in [CROOKED, BENT, GOBLET]:
            for way in range(12):
                for a, b in [(0, 0), (-3, 8), (BIG, -BIG), (-BIG, -1)]:
                    self.assertEqual(turned(moved(cells, a, b), way), turned(cells, way))

    def test_two_hundred_cells(self):
        self.assertEqual(len(APART[-1]), 200)
        for way in range(12):
            self.assertEqual(turned(APART[-1][::-1], way), turned_anew(APART[-1], way))

    def test_lists_are_the_asker_s_own(self):
        for cells in [CROOKED, mixed(BENT), list(APART[1])]:
            for way in range(12):
                check_own(self, turned, cells, way)

    def test_names_of_arguments(self):
        self.assertEqual(turned(cells=[(4, 4)], way=7), [(0, 0)])
        self.assertEqual(alike(one=Coal([(4, 4)]), other=Coal([(0, 0)])), 0)


def alike_anew(one, other):
    ways = [way for way in range(12) if turned_anew(one, way) == laid(other)]
    return ways[0] if ways else None


class Alike(unittest.TestCase):

    def test_a_coal_and_itself(self):
        for cells in some_coals() + big_coals():
            self.assertEqual(alike(Coal(cells), Coal(mixed(cells))), 0)
            self.assertEqual(alike(Coal(cells), Coal(moved(cells, 9, -40))), 0)
        coal = Coal(CROOKED)
        self.assertEqual(alike(coal, coal), 0)

    def test_each_turned_and_shifted_one(self):
        lists = [CROOKED, BENT, BLOCK, TRIANGLE, FLOWER, GOBLET, ZIGZAG, BRANCHED, row(3), row(14)]
        for cells in lists + [grown(many, seed) for many in (4, 6, 9, 14) for seed in range(3)]:
            coal = Coal(cells)
            for way in range(12):
                other = moved(turned_anew(cells, way), 3 * way, -way * way)
                told = alike(coal, Coal(other))
                self.assertEqual(told, alike_anew(cells, other))
                self.assertLessEqual(told, way)
                self.assertIs(type(told), int)

    def test_every_turning_is_told(self):
        told = [alike(Coal(CROOKED), Coal(turned_anew(CROOKED, way))) for way in range(12)]
        self.assertEqual(told, list(range(12)))

    def test_far_off(self):
        for way in range(12):
            far = Coal(moved(turned_anew(CROOKED, way), BIG, -BIG))
            self.assertEqual(alike(Coal(CROOKED), far), way)
            self.assertEqual(alike(far, Coal(moved(CROOKED, -BIG, BIG))), alike_anew(far.cells(), CROOKED))

    def test_the_least_of_several(self):
        for way in range(12):
            self.assertEqual(alike(Coal(FLOWER), Coal(turned(FLOWER, way))), 0)
            self.assertEqual(alike(Coal([(0, 0)]), Coal(turned([(0, 0)], way))), 0)
            self.assertEqual(alike(Coal(row(5)), Coal(turned(row(5), way))), way % 3 if way < 6 else (way + 1) % 3)

    def test_from_the_first_to_the_second(self):
        self.assertEqual(alike(Coal(CROOKED), Coal(turned_anew(CROOKED, 1))), 1)
        self.assertEqual(alike(Coal(turned_anew(CROOKED, 1)), Coal(CROOKED)), 5)

    def test_every_two_small_coals(self):
        for many, lists in shapes(4):
            for one in lists:
                for other in lists:
                    self.assertEqual(alike(Coal(one), Coal(other)), alike_anew(one, other))

    def test_not_alike(self):
        self.assertIsNone(alike(Coal([(0, 0)]), Coal([(0, 0), (1, 0)])))
        self.assertIsNone(alike(Coal(row(3)), Coal([(0, 0), (1, 0), (0, 1)])))
        self.assertIsNone(alike(Coal(row(14)), Coal(BENT)))
        self.assertIsNone(alike(Coal(BENT), Coal(ZIGZAG)))
        self.assertIsNone(alike(Coal(row(13)), Coal(row(14))))
        self.assertIsNone(alike(Coal(GOBLET), Coal(moved(row(11), BIG, BIG))))

    def test_as_many_kinds_as_are_known(self):
        kinds = []
        for many, lists in shapes(5):
            found = []
            for coal in [Coal(cells) for cells in lists]:
                if all(alike(coal, other) is None for other in found):
                    found.append(coal)
            kinds.append(len(found))
        self.assertEqual(kinds, [1, 1, 3, 7, 22])

    def test_coals_stay_as_they_are(self):
        check_own(self, alike, Coal(CROOKED), Coal(moved(turned(CROOKED, 8), 5, 5)))


if __name__ == "__main__":
    unittest.main()
