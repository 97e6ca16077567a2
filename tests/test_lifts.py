"""Lifts from one pairing to another [23], roads [24], and what [2] and [3] say of them."""

import unittest

from helper import (
    BENT, BIG, BLOCK, BRANCHED, DOWN, FLOWER, UNPAIRED, UP, ZIGZAG, check_own, check_refused, coals_to_pair, grown,
    mixed, moved, no_pairings, pairings_anew, row, shapes,
)
from sootring.cells import beside, holes
from sootring.coal import Coal
from sootring.errors import NoPairing
from sootring.lifts import lift, road
from sootring.turns import highest, lowest, turn, turnable


def some_of(things, most):
    """So many of the things at most, the first and the last one among them, spread out."""
    if len(things) <= most:
        return things
    return [things[k * (len(things) - 1) // (most - 1)] for k in range(most)]


def pairs_of_pairings(most):
    """Coals of all sizes, each with some pairings, every two of which are to be tried."""
    for coal in coals_to_pair():
        found = pairings_anew(coal)
        if found:
            yield coal, some_of(found, most), mixed(some_of(found[::-1], most))


class Lift(unittest.TestCase):

    def check(self, coal, one, other):
        """What [23] says of each side of each cell."""
        told = lift(coal, one, other)
        self.assertIs(type(told), list)
        self.assertTrue(all(type(number) is int for number in told))
        self.assertEqual(len(told), coal.many())
        ties = coal.ties()
        counts = dict(zip(coal.cells(), told))
        for number, cell in enumerate(coal.cells()):
            for k, neighbour in enumerate(beside(cell)):
                tie = ties[coal.sides(number)[k]]
                rise = (tie in one and tie not in other) - (tie in other and tie not in one)
                due = counts[cell] + (rise if k in (0, 2, 4) else -rise)
                self.assertEqual(counts.get(neighbour, 0), due)

    def test_one_cell(self):
        coal = Coal([(0, 0)])
        self.assertEqual(lift(coal, DOWN, UP), [1])
        self.assertEqual(lift(coal, UP, DOWN), [-1])
        self.assertEqual(lift(coal, UP, UP), [0])

    def test_two_cells(self):
        coal = Coal(row(2))
        one, two, three = pairings_anew(coal)
        self.assertEqual(lift(coal, two, one), [1, 0])
        self.assertEqual(lift(coal, two, three), [0, -1])
        self.assertEqual(lift(coal, three, one), [1, 1])

    def test_by_each_side_of_each_cell(self):
        for coal, ones, others in pairs_of_pairings(7):
            for one in ones:
                for other in others:
                    self.check(coal, one, other)

    def test_every_two_pairings(self):
        for cells in [row(7), FLOWER, BLOCK, grown(8, 1), grown(8, 5), moved(FLOWER, BIG, -BIG)]:
            coal = Coal(cells)
            found = pairings_anew(coal)
            for one in found:
                for other in found:
                    self.check(coal, one, other)

    def test_from_a_pairing_to_itself(self):
        for coal, ones, others in pairs_of_pairings(5):
            for one in ones:
                self.assertEqual(lift(coal, one, list(one)), [0] * coal.many())

    def test_a_turn_lifts_one_cell_by_one(self):
        for coal, ones, others in pairs_of_pairings(5):
            for one in ones:
                for cell, up in turnable(coal, one):
                    due = [0] * coal.many()
                    due[cell] = 1 if up else -1
                    self.assertEqual(lift(coal, one, turn(coal, one, cell)), due)

    def test_over_a_third_one_they_add_up(self):
        for coal, ones, others in pairs_of_pairings(4):
            for one in ones:
                for third in others:
                    for other in ones:
                        ways = zip(lift(coal, one, third), lift(coal, third, other))
                        self.assertEqual(lift(coal, one, other), [first + second for first, second in ways])

    def test_from_the_lowest_one_none_falls(self):
        for coal, ones, others in pairs_of_pairings(6):
            for one in ones:
                self.assertGreaterEqual(min(lift(coal, lowest(coal), one)), 0)
                self.assertLessEqual(max(lift(coal, highest(coal), one)), 0)

    def test_lifts_by_more_than_one(self):
        coal = Coal(FLOWER)
        told = lift(coal, lowest(coal), highest(coal))
        self.assertEqual(sorted(told), [1, 1, 1, 1, 1, 1, 2])
        self.assertEqual(told[coal.cells().index((0, 0))], 2)

    def test_names_of_arguments(self):
        coal = Coal([(0, 0)])
        self.assertEqual(lift(coal=coal, one=DOWN, other=UP), [1])
        self.assertEqual(road(coal=coal, one=DOWN, other=UP), [0])


class Road(unittest.TestCase):

    def check(self, coal, one, other):
        """A road walked turn by turn, as long as [24] says."""
        told = road(coal, one, other)
        self.assertIs(type(told), list)
        self.assertTrue(all(type(cell) is int for cell in told))
        here = one
        for cell in told:
            here = turn(coal, here, cell)
        self.assertEqual(here, other)
        self.assertEqual(len(told), sum(abs(number) for number in lift(coal, one, other)))

    def test_one_cell(self):
        coal = Coal([(0, 0)])
        self.assertEqual(road(coal, DOWN, UP), [0])
        self.assertEqual(road(coal, UP, DOWN), [0])
        self.assertEqual(road(coal, UP, UP), [])

    def test_walked_turn_by_turn(self):
        for coal, ones, others in pairs_of_pairings(5):
            for one in ones:
                for other in others:
                    self.check(coal, one, other)

    def test_every_two_pairings(self):
        for cells in [row(6), FLOWER, grown(7, 1), grown(8, 5)]:
            coal = Coal(cells)
            found = pairings_anew(coal)
            for one in found:
                for other in found:
                    self.check(coal, one, other)

    def test_every_small_coal(self):
        for many, lists in shapes(6):
            for cells in lists[::3]:
                coal = Coal(cells) if holes(cells) == [] else None
                found = pairings_anew(coal) if coal else []
                if found:
                    self.check(coal, found[0], found[-1])
                    self.check(coal, found[-1], found[len(found) // 2])

    def test_from_a_pairing_to_itself(self):
        for coal, ones, others in pairs_of_pairings(3):
            for one in ones:
                self.assertEqual(road(coal, one, list(one)), [])

    def test_fourteen_cells(self):
        for cells in [row(14), BLOCK, BENT, ZIGZAG, BRANCHED, grown(14, 3), grown(14, 19)]:
            coal = Coal(cells)
            self.check(coal, lowest(coal), highest(coal))
            self.check(coal, highest(coal), lowest(coal))

    def test_up_and_down_on_one_road(self):
        coal = Coal(row(5, 0, 0, (0, 1)))
        seen = set()
        for one in pairings_anew(coal):
            for other in pairings_anew(coal):
                seen.update(number > 0 for number in lift(coal, one, other) if number)
        self.assertEqual(seen, {True, False})
        coal = Coal(ZIGZAG)
        found = some_of(pairings_anew(coal), 20)
        both = [(one, other) for one in found for other in found
                if min(lift(coal, one, other)) < 0 < max(lift(coal, one, other))]
        self.assertGreater(len(both), 20)
        for one, other in both:
            self.check(coal, one, other)

    def test_none_is_shorter(self):
        for cells in [row(5), FLOWER, grown(7, 1), [(0, 0), (1, 0), (0, 1), (1, -1)]]:
            coal = Coal(cells)
            found = pairings_anew(coal)
            for one in found:
                steps = self.steps_from(coal, one)
                self.assertEqual(len(steps), len(found))
                for other in found:
                    self.assertEqual(len(road(coal, one, other)), steps[str(other)])

    def steps_from(self, coal, one):
        """For each pairing the fewest turns that lead to it, by trying all."""
        steps = {str(one): 0}
        waiting = [one]
        for here in waiting:
            for cell, up in turnable(coal, here):
                there = turn(coal, here, cell)
                if str(there) not in steps:
                    steps[str(there)] = steps[str(here)] + 1
                    waiting.append(there)
        return steps


class Refusing(unittest.TestCase):

    def test_no_pairing_in_either_place(self):
        for cells in [row(1), row(3), FLOWER, BRANCHED]:
            coal = Coal(cells)
            pairing = pairings_anew(coal)[1]
            for thing in no_pairings(coal, pairing):
                for ask in [lift, road]:
                    check_refused(self, NoPairing, ask, coal, thing, pairing)
                    check_refused(self, NoPairing, ask, coal, pairing, thing)
                    check_refused(self, NoPairing, ask, coal, thing, thing)

    def test_a_coal_without_a_pairing(self):
        for cells in UNPAIRED:
            coal = Coal(cells)
            for ask in [lift, road]:
                check_refused(self, NoPairing, ask, coal, UP, UP)
                check_refused(self, NoPairing, ask, coal, [], [])

    def test_what_is_handed_in_stays(self):
        for cells in [row(3), FLOWER]:
            coal = Coal(cells)
            found = pairings_anew(coal)
            for one in found:
                for other in found[::3]:
                    check_own(self, lift, coal, one, other)
                    check_own(self, road, coal, one, other)
                check_own(self, road, coal, one, one)


if __name__ == "__main__":
    unittest.main()
