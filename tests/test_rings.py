"""The most cells that can be ringed at once, with their ties and weights [26], and what [2] and [3] say of them."""

import unittest

from helper import (
    BENT, BIG, BLOCK, BRANCHED, FLOWER, GOBLET, TRIANGLE, UNPAIRED, ZIGZAG, check_own, check_refused, coals_to_pair,
    grown, mixed, most_ringed_anew, moved, pairings_anew, row, shapes,
)
from sootring.cells import holes
from sootring.coal import Coal
from sootring.errors import Unpaired
from sootring.points import is_light
from sootring.rings import most_ringed


class Told(unittest.TestCase):

    def check_kinds(self, told):
        self.assertIs(type(told), tuple)
        self.assertEqual([type(part) for part in told], [list] * 3)
        cells, ties, weights = told
        self.assertTrue(all(type(number) is int for number in cells + weights))
        self.assertTrue(all(type(tie) is tuple for tie in ties))

    def check(self, coal):
        """All that [26] says of what is told; the weights show that no more cells can be ringed."""
        told = most_ringed(coal)
        self.check_kinds(told)
        cells, ties, weights = told
        self.assertEqual(cells, sorted(set(cells)))
        self.assertEqual(ties, sorted(set(ties)))
        self.assertLessEqual(set(ties), set(coal.ties()))
        points = range(len(coal.points()))
        parted = [point for cell in cells for point in coal.corners(cell)] + [point for tie in ties for point in tie]
        self.assertEqual(sorted(parted), list(points))
        self.assertEqual(len(weights), len(points))
        for one, other in coal.ties():
            self.assertGreaterEqual(weights[one] + weights[other], 0)
        for cell in range(coal.many()):
            self.assertGreaterEqual(sum(weights[point] for point in coal.corners(cell)), 1)
        self.assertEqual(sum(weights), len(cells))
        return len(cells)

    def test_one_cell(self):
        coal = Coal([(0, 0)])
        cells, ties, weights = most_ringed(coal)
        self.assertEqual((cells, ties, sum(weights)), ([0], [], 1))
        self.check(coal)

    def test_known_numbers(self):
        # In a straight row each two cells leave a corner too few; cells aside by turns can be ringed every other one.
        for many in range(1, 15):
            self.assertEqual(self.check(Coal(row(many))), 1)
            self.assertEqual(self.check(Coal(ZIGZAG[:many])), (many + 1) // 2)
        for cells, due in [(FLOWER, 3), (BLOCK, 2), ([(0, 0), (1, 0), (0, 1), (1, -1)], 2)]:
            self.assertEqual(self.check(Coal(cells)), due)

    def test_coals_of_each_size(self):
        sizes = set()
        for coal in coals_to_pair():
            if pairings_anew(coal):
                self.assertEqual(self.check(coal), most_ringed_anew(coal))
                sizes.add(coal.many())
        self.assertEqual(sizes, set(range(1, 15)))

    def test_every_small_coal(self):
        for many, lists in shapes(6):
            for cells in lists:
                if holes(cells) == []:
                    coal = Coal(cells)
                    due = most_ringed_anew(coal)
                    if due is None:
                        check_refused(self, Unpaired, most_ringed, coal)
                    else:
                        self.assertEqual(self.check(coal), due)

    def test_many_coals_of_fourteen_cells(self):
        seen = set()
        for seed in range(100, 400):
            coal = Coal(grown(14, seed))
            due = most_ringed_anew(coal)
            if due is not None:
                self.assertEqual(self.check(coal), due)
                seen.add(due)
        self.assertGreaterEqual(seen, {3, 4, 5, 6, 7})

    def test_cells_far_off(self):
        for cells in [FLOWER, ZIGZAG, BRANCHED, BENT]:
            due = self.check(Coal(cells))
            self.assertEqual(self.check(Coal(moved(cells, BIG, -BIG))), due)
            self.assertEqual(self.check(Coal(moved(mixed(cells), -BIG, 3))), due)

    def test_names_of_arguments(self):
        self.assertEqual(most_ringed(coal=Coal([(0, 0)]))[0], [0])


class Refusing(unittest.TestCase):

    def test_a_coal_without_a_pairing(self):
        for cells in UNPAIRED:
            check_refused(self, Unpaired, most_ringed, Coal(cells))

    def test_as_many_light_as_dark_points_and_no_pairing(self):
        coal = Coal(GOBLET)
        lights = [is_light(point) for point in coal.points()]
        self.assertEqual((coal.many(), lights.count(True)), (11, lights.count(False)))
        check_refused(self, Unpaired, most_ringed, coal)
        lights = [is_light(point) for point in Coal(TRIANGLE).points()]
        self.assertNotEqual(lights.count(True), lights.count(False))
        check_refused(self, Unpaired, most_ringed, Coal(TRIANGLE))

    def test_lists_are_the_asker_s_own(self):
        for cells in [row(1), row(3), FLOWER, ZIGZAG, BRANCHED]:
            check_own(self, most_ringed, Coal(cells))


if __name__ == "__main__":
    unittest.main()
