"""Turning cells [22], the lowest and the highest pairing [25], and what [2] and [3] say of them."""

import unittest

from helper import (
    BENT, BIG, BLOCK, BRANCHED, DOWN, FLOWER, UNPAIRED, UP, ZIGZAG, big_coals, check_own, check_refused, coals_to_pair,
    grown, no_pairings, pairings_anew, row, shapes,
)
from sootring.cells import holes
from sootring.coal import Coal
from sootring.errors import NoNumber, NoPairing, NoTurn, Unpaired
from sootring.turns import highest, lowest, turn, turnable


def thirds(coal, cell):
    """The ties along sides 0, 2 and 4 of a cell, and along sides 1, 3 and 5."""
    sides = [coal.ties()[side] for side in coal.sides(cell)]
    return {sides[0], sides[2], sides[4]}, {sides[1], sides[3], sides[5]}


def turnable_anew(coal, pairing):
    found = []
    for cell in range(coal.many()):
        even, odd = thirds(coal, cell)
        if odd <= set(pairing):
            found.append((cell, True))
        if even <= set(pairing):
            found.append((cell, False))
    return found


def turn_anew(coal, pairing, cell, up):
    even, odd = thirds(coal, cell)
    return sorted(set(pairing) - odd | even) if up else sorted(set(pairing) - even | odd)


def some_pairings(most):
    """Coals of all sizes, each with so many of its pairings at most."""
    for coal in coals_to_pair():
        found = pairings_anew(coal)
        if found:
            yield coal, found[::max(1, len(found) // most)]


class Turnable(unittest.TestCase):

    def test_one_cell(self):
        coal = Coal([(0, 0)])
        self.assertEqual(turnable(coal, UP), [(0, False)])
        self.assertEqual(turnable(coal, DOWN), [(0, True)])

    def test_two_cells(self):
        coal = Coal(row(2))
        told = [turnable(coal, pairing) for pairing in pairings_anew(coal)]
        self.assertEqual(told, [[(0, False)], [(0, True), (1, False)], [(1, True)]])

    def test_each_pairing(self):
        for coal, lists in some_pairings(40):
            for pairing in lists:
                told = turnable(coal, pairing)
                self.assertIs(type(told), list)
                self.assertEqual(told, turnable_anew(coal, pairing))
                self.assertEqual(told, sorted(told))
                self.assertTrue(all(type(one) is tuple and type(one[0]) is int for one in told))
                self.assertTrue(all(type(up) is bool for cell, up in told))

    def test_no_pairing(self):
        for cells in [row(1), row(3), FLOWER, BRANCHED]:
            coal = Coal(cells)
            for thing in no_pairings(coal, pairings_anew(coal)[1]):
                check_refused(self, NoPairing, turnable, coal, thing)
        for cells in UNPAIRED:
            check_refused(self, NoPairing, turnable, Coal(cells), UP)
            check_refused(self, NoPairing, turnable, Coal(cells), Coal(cells).ties())

    def test_lists_are_the_asker_s_own(self):
        coal = Coal(FLOWER)
        for pairing in pairings_anew(coal):
            check_own(self, turnable, coal, pairing)

    def test_names_of_arguments(self):
        coal = Coal([(0, 0)])
        self.assertEqual(turnable(coal=coal, pairing=UP), [(0, False)])
        self.assertEqual(turn(coal=coal, pairing=UP, cell=0), DOWN)
        self.assertEqual(lowest(coal=coal), DOWN)
        self.assertEqual(highest(coal=coal), UP)


class Turn(unittest.TestCase):

    def test_one_cell(self):
        coal = Coal([(0, 0)])
        self.assertEqual(turn(coal, UP, 0), DOWN)
        self.assertEqual(turn(coal, DOWN, 0), UP)

    def test_each_pairing_and_cell(self):
        for coal, lists in some_pairings(12):
            for pairing in lists:
                ups = dict(turnable_anew(coal, pairing))
                for cell in range(coal.many()):
                    if cell in ups:
                        told = turn(coal, pairing, cell)
                        self.assertIs(type(told), list)
                        self.assertEqual(told, turn_anew(coal, pairing, cell, ups[cell]))
                        self.assertIn((cell, not ups[cell]), turnable(coal, told))
                        self.assertEqual(turn(coal, told, cell), pairing)
                    else:
                        check_refused(self, NoTurn, turn, coal, pairing, cell)

    def test_a_pairing_comes_of_it(self):
        for cells in [FLOWER, BLOCK, BENT, grown(9, 1)]:
            coal = Coal(cells)
            found = pairings_anew(coal)
            for pairing in found:
                for cell, up in turnable(coal, pairing):
                    self.assertIn(turn(coal, pairing, cell), found)

    def test_refusals_in_order(self):
        for cells in [row(1), row(3), FLOWER, BRANCHED]:
            coal = Coal(cells)
            many = coal.many()
            pairing = pairings_anew(coal)[0]
            wrong = [many, many + 1, -1, -many, -many - 1, 10 ** 20, BIG, -BIG]
            for cell in wrong:
                check_refused(self, NoNumber, turn, coal, pairing, cell)
            for thing in no_pairings(coal, pairing):
                check_refused(self, NoPairing, turn, coal, thing, 0)
                check_refused(self, NoPairing, turn, coal, thing, many - 1)
                check_refused(self, NoPairing, turn, coal, thing, -1)
                check_refused(self, NoPairing, turn, coal, thing, BIG)

    def test_a_coal_without_a_pairing(self):
        for cells in UNPAIRED:
            check_refused(self, NoPairing, turn, Coal(cells), UP, 0)
            check_refused(self, NoPairing, turn, Coal(cells), [], -1)

    def test_what_is_handed_in_stays(self):
        coal = Coal(FLOWER)
        for pairing in pairings_anew(coal):
            for cell, up in turnable(coal, pairing):
                check_own(self, turn, coal, pairing, cell)


class LowestAndHighest(unittest.TestCase):

    def check(self, coal):
        found = pairings_anew(coal)
        low = [one for one in found if all(up for cell, up in turnable_anew(coal, one))]
        high = [one for one in found if not any(up for cell, up in turnable_anew(coal, one))]
        self.assertEqual([lowest(coal)], low)
        self.assertEqual([highest(coal)], high)

    def test_one_cell(self):
        self.assertEqual(lowest(Coal([(0, 0)])), DOWN)
        self.assertEqual(highest(Coal([(0, 0)])), UP)

    def test_against_all_pairings(self):
        seen = 0
        for coal in coals_to_pair():
            if pairings_anew(coal):
                self.check(coal)
                seen += coal.many() == 14
        self.assertGreater(seen, 10)

    def test_every_small_coal(self):
        for many, lists in shapes(6):
            for cells in lists:
                if holes(cells) == [] and pairings_anew(Coal(cells)):
                    self.check(Coal(cells))

    def test_turned_in_whatever_order(self):
        for cells in [row(6), FLOWER, BLOCK, ZIGZAG, BRANCHED, grown(14, 3)]:
            coal = Coal(cells)
            found = pairings_anew(coal)
            for k, pairing in enumerate(found[::max(1, len(found) // 9)]):
                for up, due in [(False, lowest(coal)), (True, highest(coal))]:
                    here = pairing
                    ways = [cell for cell, way in turnable_anew(coal, here) if way is up]
                    turns = 0
                    while ways:
                        here = turn(coal, here, ways[(turns * 7 + k) % len(ways)])
                        ways = [cell for cell, way in turnable_anew(coal, here) if way is up]
                        turns += 1
                    self.assertEqual(here, due)

    def test_they_are_not_the_same(self):
        # Each point has two neighbours or more, so no coal has one pairing alone, and the two are never the same.
        for coal in coals_to_pair():
            if pairings_anew(coal):
                self.assertNotEqual(lowest(coal), highest(coal))

    def test_a_coal_without_a_pairing(self):
        for cells in UNPAIRED:
            check_refused(self, Unpaired, lowest, Coal(cells))
            check_refused(self, Unpaired, highest, Coal(cells))

    def test_lists_are_the_asker_s_own(self):
        for cells in [row(1), FLOWER, big_coals()[0]]:
            check_own(self, lowest, Coal(cells))
            check_own(self, highest, Coal(cells))


if __name__ == "__main__":
    unittest.main()
