"""Ties that all, some or none of the pairings have [18], shares [19], and what [2] and [3] say of them."""

import unittest
from fractions import Fraction
from math import gcd

from helper import (
    BIG, BRANCHED, FLOWER, UNPAIRED, check_own, check_refused, coals_to_pair, pairings_anew, row, spoil,
)
from sootring.coal import Coal
from sootring.errors import NoNumber, Unpaired
from sootring.pairing import is_pairing
from sootring.shares import having, kinds, lacking, shares

# Two pairs of cells on opposite sides of one: the two ties of that one alone are in no pairing.
TWO_PAIRS = [(0, 0), (1, -1), (1, 0), (-1, 0), (-1, 1)]
# Three cells round a point at each end of a bridge: some ties are in all pairings.
BRIDGED = [(0, 1), (0, 2), (1, 1), (2, 1), (3, 0), (3, 1)]


def paired_coals():
    """Coals of all sizes with all their pairings, but for those without one."""
    coals = coals_to_pair() + [Coal(TWO_PAIRS), Coal(BRIDGED)]
    found = [(coal, pairings_anew(coal)) for coal in coals]
    return [(coal, lists) for coal, lists in found if lists]


def kind_anew(tie, lists):
    many = sum(tie in pairing for pairing in lists)
    return {0: "none", len(lists): "all"}.get(many, "some")


class Kinds(unittest.TestCase):

    def test_known_kinds(self):
        self.assertEqual(kinds(Coal(row(1))), ["some"] * 6)
        self.assertEqual(kinds(Coal(row(2))), ["some"] * 11)
        self.assertEqual(kinds(Coal(FLOWER)), ["some"] * 30)
        told = kinds(Coal(TWO_PAIRS))
        middle = Coal(TWO_PAIRS).sides(2)
        self.assertEqual([told[middle[2]], told[middle[5]]], ["none", "none"])
        self.assertEqual((told.count("none"), told.count("all")), (2, 0))
        told = kinds(Coal(BRIDGED))
        self.assertEqual((told.count("none"), told.count("all")), (5, 2))

    def test_against_all_pairings(self):
        seen = set()
        for coal, lists in paired_coals():
            told = kinds(coal)
            self.assertIs(type(told), list)
            self.assertEqual(told, [kind_anew(tie, lists) for tie in coal.ties()])
            seen.update(told)
        self.assertEqual(seen, {"all", "some", "none"})

    def test_a_coal_without_a_pairing(self):
        for cells in UNPAIRED:
            check_refused(self, Unpaired, kinds, Coal(cells))

    def test_lists_are_the_asker_s_own(self):
        for cells in [row(3), BRIDGED]:
            check_own(self, kinds, Coal(cells))

    def test_names_of_arguments(self):
        coal = Coal([(0, 0)])
        self.assertEqual(kinds(coal=coal), ["some"] * 6)
        self.assertIn((0, 1), having(coal=coal, tie=0))
        self.assertNotIn((0, 1), lacking(coal=coal, tie=0))
        self.assertEqual(shares(coal=coal), [(1, 2)] * 6)


class HavingAndLacking(unittest.TestCase):

    def test_each_tie(self):
        for coal, lists in paired_coals():
            for number, tie in enumerate(coal.ties()):
                kind = kind_anew(tie, lists)
                told = having(coal, number)
                if kind == "none":
                    self.assertIsNone(told)
                else:
                    self.assertIs(is_pairing(coal, told), True)
                    self.assertIn(tie, told)
                told = lacking(coal, number)
                if kind == "all":
                    self.assertIsNone(told)
                else:
                    self.assertIs(is_pairing(coal, told), True)
                    self.assertNotIn(tie, told)

    def test_numbers_of_no_tie(self):
        for cells in [row(1), FLOWER, row(14), BRANCHED]:
            coal = Coal(cells)
            many = len(coal.ties())
            for ask in [having, lacking]:
                for number in [many, many + 1, -1, -2, -many, -many - 1, 10 ** 20, -10 ** 20, BIG, -BIG]:
                    check_refused(self, NoNumber, ask, coal, number)

    def test_unpaired_comes_ahead_of_no_number(self):
        for cells in UNPAIRED:
            coal = Coal(cells)
            for ask in [having, lacking]:
                for number in [0, 1, len(coal.ties()) - 1, len(coal.ties()), -1, BIG, -BIG]:
                    check_refused(self, Unpaired, ask, coal, number)

    def test_spoilt_pairings_change_no_answer(self):
        for cells in [row(3), BRIDGED]:
            coal = Coal(cells)
            for ask in [having, lacking]:
                for number in range(len(coal.ties())):
                    check_own(self, ask, coal, number)
                    spoil(ask(coal, number))
        self.assertEqual(kinds(Coal(BRIDGED)).count("all"), 2)


class Shares(unittest.TestCase):

    def test_known_shares(self):
        third, two_thirds = (1, 3), (2, 3)
        self.assertEqual(shares(Coal(row(1))), [(1, 2)] * 6)
        self.assertEqual(shares(Coal(row(2))), [
            third, two_thirds, two_thirds, third, third, third, third, third, two_thirds, two_thirds, third,
        ])

    def test_nought_and_one(self):
        told = shares(Coal(BRIDGED))
        self.assertEqual(told.count((0, 1)), 5)
        self.assertEqual(told.count((1, 1)), 2)
        for share, kind in zip(told, kinds(Coal(BRIDGED))):
            self.assertEqual(kind, {(0, 1): "none", (1, 1): "all"}.get(share, "some"))

    def test_against_all_pairings(self):
        for coal, lists in paired_coals():
            told = shares(coal)
            self.assertIs(type(told), list)
            self.assertEqual(len(told), len(coal.ties()))
            for tie, share in zip(coal.ties(), told):
                due = Fraction(sum(tie in pairing for pairing in lists), len(lists))
                self.assertIs(type(share), tuple)
                self.assertEqual(share, (due.numerator, due.denominator))

    def test_in_lowest_terms(self):
        for coal, lists in paired_coals():
            for top, bottom in shares(coal):
                self.assertTrue(type(top) is int and type(bottom) is int)
                self.assertTrue(0 <= top <= bottom and bottom >= 1)
                self.assertEqual(gcd(top, bottom), 1)

    def test_at_each_point_they_come_to_one(self):
        for coal, lists in paired_coals():
            told = dict(zip(coal.ties(), shares(coal)))
            for point in range(len(coal.points())):
                some = [Fraction(*share) for tie, share in told.items() if point in tie]
                self.assertEqual(sum(some), 1)

    def test_rows(self):
        # Each pairing of a row has just one of the ties that stand upright between its cells and at its ends.
        for many in range(1, 15):
            coal = Coal(row(many))
            told = shares(coal)
            for cell in range(many):
                upright = [told[coal.sides(cell)[1]], told[coal.sides(cell)[4]]]
                self.assertEqual(upright, [(1, many + 1), (1, many + 1)])

    def test_a_coal_without_a_pairing(self):
        for cells in UNPAIRED:
            check_refused(self, Unpaired, shares, Coal(cells))

    def test_lists_are_the_asker_s_own(self):
        for cells in [row(3), BRIDGED]:
            check_own(self, shares, Coal(cells))


if __name__ == "__main__":
    unittest.main()
