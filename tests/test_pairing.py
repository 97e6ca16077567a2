"""What a pairing is [15], coals told as paired or short [16, 3], and what [2] says of the lists."""

import unittest

from helper import (
    BIG, BRANCHED, DOWN, FLOWER, GOBLETS, TRIANGLE, UNPAIRED, UP, big_coals, check_own, coals_to_pair, grown, mixed,
    moved, no_pairings, pairings_anew, refusal, row, shapes, spoil,
)
from sootring.cells import holes
from sootring.coal import Coal
from sootring.pairing import is_pairing, paired
from sootring.points import is_light


class IsPairing(unittest.TestCase):

    def test_one_cell(self):
        coal = Coal([(0, 0)])
        self.assertIs(is_pairing(coal, UP), True)
        self.assertIs(is_pairing(coal, DOWN), True)
        self.assertIs(is_pairing(Coal([(BIG, -BIG)]), DOWN), True)

    def test_every_choice_of_three_ties_of_one_cell(self):
        coal = Coal([(0, 0)])
        pairs = [(i, j) for i in range(-1, 7) for j in range(-1, 7)]
        found = [[one, two, three] for one in pairs for two in pairs for three in pairs
                 if is_pairing(coal, [one, two, three])]
        self.assertEqual(found, [UP, DOWN])

    def test_all_pairings_are_such(self):
        for coal in coals_to_pair():
            for pairing in pairings_anew(coal)[:60]:
                self.assertIs(is_pairing(coal, pairing), True)

    def test_things_that_are_none(self):
        for cells in [row(1), row(2), row(5, 3, -3), FLOWER, row(14), BRANCHED, grown(14, 3)]:
            coal = Coal(cells)
            found = pairings_anew(coal)
            for pairing in [found[0], found[-1], found[len(found) // 2]]:
                for thing in no_pairings(coal, pairing):
                    before = repr(thing)
                    self.assertIs(is_pairing(coal, thing), False, repr(thing))
                    self.assertEqual(repr(thing), before)
                self.assertIs(is_pairing(coal, pairing), True)

    def test_truths_that_are_like_numbers(self):
        coal = Coal([(0, 0)])
        self.assertIs(is_pairing(coal, [(0, True), (2, 5), (3, 4)]), False)
        self.assertIs(is_pairing(coal, [(False, 1), (2, 5), (3, 4)]), False)
        self.assertIs(is_pairing(coal, [(False, True), (2, 5), (3, 4)]), False)
        self.assertIs(is_pairing(coal, [(0, 3), (True, 2), (4, 5)]), False)

    def test_pairs_of_points_that_are_no_ties(self):
        coal = Coal([(0, 0)])
        self.assertIs(is_pairing(coal, [(0, 2), (1, 5), (3, 4)]), False)
        self.assertIs(is_pairing(coal, [(0, 4), (1, 3), (2, 5)]), False)
        self.assertIs(is_pairing(coal, [(0, 5), (1, 4), (2, 3)]), False)

    def test_a_pairing_of_another_coal(self):
        coal = Coal(row(2))
        self.assertIs(is_pairing(coal, UP), False)
        self.assertIs(is_pairing(Coal([(0, 0)]), pairings_anew(coal)[0]), False)
        for pairing in pairings_anew(Coal(row(2))):
            self.assertIs(is_pairing(Coal(row(2, 0, 0, (1, -1))), pairing),
                          pairing in pairings_anew(Coal(row(2, 0, 0, (1, -1)))))

    def test_a_coal_without_one(self):
        for cells in UNPAIRED:
            coal = Coal(cells)
            ties = coal.ties()
            self.assertIs(is_pairing(coal, ties), False)
            self.assertIs(is_pairing(coal, []), False)
            # As many ties as can be, none of which has a point in common with one ahead.
            chosen = []
            for tie in ties:
                if all(not set(tie) & set(other) for other in chosen):
                    chosen.append(tie)
            self.assertIs(is_pairing(coal, chosen), False)

    def test_asking_changes_nothing(self):
        coal = Coal(row(3))
        for pairing in pairings_anew(coal):
            check_own(self, is_pairing, coal, pairing)
            check_own(self, is_pairing, coal, pairing[::-1])

    def test_names_of_arguments(self):
        self.assertIs(is_pairing(coal=Coal([(0, 0)]), thing=None), False)
        self.assertEqual(paired(coal=Coal([(0, 0)]))[0], "paired")


class Paired(unittest.TestCase):

    def check(self, coal, has_one):
        """What [16] says, of a coal of which it is known whether it has a pairing."""
        told = paired(coal)
        self.assertIs(type(told), tuple)
        self.assertEqual(len(told), 2)
        self.assertIs(type(told[1]), list)
        self.assertEqual(told[0], "paired" if has_one else "short")
        if has_one:
            self.check_pairing(coal, told[1])
        else:
            self.check_short(coal, told[1])

    def check_pairing(self, coal, pairing):
        ties = coal.ties()
        self.assertTrue(all(type(tie) is tuple and tie in ties for tie in pairing))
        self.assertEqual(pairing, sorted(pairing))
        points = sorted(point for tie in pairing for point in tie)
        self.assertEqual(points, list(range(len(coal.points()))))
        self.assertIs(is_pairing(coal, pairing), True)

    def check_short(self, coal, numbers):
        points = coal.points()
        self.assertTrue(all(type(number) is int for number in numbers))
        self.assertEqual(numbers, sorted(set(numbers)))
        self.assertTrue(0 <= numbers[0] and numbers[-1] < len(points))
        self.assertEqual(len({is_light(points[number]) for number in numbers}), 1)
        neighbours = {other for number in numbers for other in coal.near(number)}
        self.assertLess(len(neighbours), len(numbers))

    def test_coals_of_all_sizes(self):
        seen = {True: 0, False: 0}
        for coal in coals_to_pair():
            has_one = pairings_anew(coal) != []
            seen[has_one] += 1
            self.check(coal, has_one)
        self.assertGreater(min(seen.values()), 30)

    def test_every_small_coal(self):
        for many, lists in shapes(6):
            for cells in lists:
                if holes(cells) == []:
                    coal = Coal(cells)
                    self.check(coal, pairings_anew(coal) != [])

    def test_more_points_of_one_colour(self):
        light = [(0, 0), (1, 0), (0, 1)]
        dark = [(0, 0), (0, 1), (-1, 1)]
        for cells in [light, dark, TRIANGLE, [(-a, -b) for a, b in TRIANGLE], moved(light, BIG, -BIG)]:
            coal = Coal(cells)
            lights = sum(is_light(point) for point in coal.points())
            self.assertNotEqual(2 * lights, len(coal.points()))
            self.check(coal, False)

    def test_as_many_light_as_dark_points_and_no_pairing(self):
        for cells in GOBLETS:
            for given in [cells, [(b, a) for a, b in cells], [(-b, a + b) for a, b in cells], moved(cells, BIG, -BIG)]:
                coal = Coal(mixed(given))
                lights = sum(is_light(point) for point in coal.points())
                self.assertEqual(2 * lights, len(coal.points()))
                self.check(coal, False)

    def test_fourteen_cells(self):
        told = set()
        for cells in big_coals():
            coal = Coal(cells)
            self.assertEqual(coal.many(), 14)
            self.check(coal, pairings_anew(coal) != [])
            told.add(paired(coal)[0])
        self.assertEqual(told, {"paired", "short"})

    def test_far_off(self):
        for cells in [FLOWER, row(14), TRIANGLE]:
            self.assertEqual(paired(Coal(moved(cells, BIG, -BIG)))[0], paired(Coal(cells))[0])

    def test_what_was_told_may_be_spoilt(self):
        for cells in [row(4), FLOWER, TRIANGLE, GOBLETS[0]]:
            coal = Coal(cells)
            has_one = paired(coal)[0] == "paired"
            first = paired(coal)
            kept = (first[0], list(first[1]))
            spoil(paired(coal))
            self.assertEqual(first, kept)
            spoil(first)
            self.check(coal, has_one)
            self.check(Coal(cells), has_one)
            self.assertIsNot(paired(coal)[1], paired(coal)[1])

    def test_there_is_no_refusal(self):
        for cells in [row(1), TRIANGLE, GOBLETS[3]]:
            self.assertIsNone(refusal(paired, Coal(cells)))


if __name__ == "__main__":
    unittest.main()
