"""All pairings in order, their number, the number of a pairing and the pairing of a number [17, 3]; [2]."""

import unittest

from helper import (
    BENT, BIG, BLOCK, BRANCHED, DOWN, FLOWER, GOBLET, TRIANGLE, UNPAIRED, UP, ZIGZAG, big_coals, check_own,
    check_refused, coals_to_pair, grown, moved, no_numbers, no_pairings, pairings_anew, row, shapes, spoil,
)
from sootring.cells import holes
from sootring.coal import Coal
from sootring.errors import NoNumber, NoPairing
from sootring.listing import how_many, number_of, pairing_at, pairings
from sootring.pairing import is_pairing, paired


class AllPairings(unittest.TestCase):

    def test_one_cell(self):
        self.assertEqual(pairings(Coal([(0, 0)])), [UP, DOWN])

    def test_two_cells(self):
        self.assertEqual(pairings(Coal(row(2))), [
            [(0, 1), (2, 5), (3, 4), (6, 9), (7, 8)],
            [(0, 3), (1, 2), (4, 5), (6, 9), (7, 8)],
            [(0, 3), (1, 2), (4, 7), (5, 6), (8, 9)],
        ])

    def test_against_all_reckoned_anew(self):
        for coal in coals_to_pair():
            self.assertEqual(pairings(coal), pairings_anew(coal))

    def test_every_small_coal(self):
        for many, lists in shapes(6):
            for cells in lists:
                if holes(cells) == []:
                    coal = Coal(cells)
                    due = pairings_anew(coal)
                    self.assertEqual(pairings(coal), due)
                    self.assertEqual(how_many(coal), len(due))

    def test_each_once_and_in_order(self):
        for coal in coals_to_pair():
            told = pairings(coal)
            self.assertIs(type(told), list)
            self.assertTrue(all(is_pairing(coal, pairing) for pairing in told))
            self.assertTrue(all(one < other for one, other in zip(told, told[1:])))

    def test_a_coal_without_one(self):
        for cells in UNPAIRED:
            self.assertEqual(pairings(Coal(cells)), [])

    def test_lists_are_the_asker_s_own(self):
        for cells in [row(1), row(4), FLOWER, TRIANGLE]:
            check_own(self, pairings, Coal(cells))

    def test_no_list_stands_twice(self):
        told = pairings(Coal(FLOWER))
        kept = [list(pairing) for pairing in told[1:]]
        told[0].clear()
        self.assertEqual(told[1:], kept)
        told[-1].append((0, 1))
        self.assertEqual(told[1:-1], kept[:-1])

    def test_names_of_arguments(self):
        coal = Coal([(0, 0)])
        told = pairings(coal=coal)
        self.assertEqual(how_many(coal=coal), 2)
        self.assertEqual(number_of(coal=coal, pairing=told[1]), 1)
        self.assertEqual(pairing_at(coal=coal, number=1), told[1])


class HowMany(unittest.TestCase):

    def test_known_numbers(self):
        known = [
            (row(1), 2), (row(2), 3), (row(14), 15), (row(14, 0, 0, (0, 1)), 15), (FLOWER, 20), (BLOCK, 36),
            ([(a, b) for a in range(4) for b in range(3)], 35), ([(0, 0), (1, 0), (1, 1)], 5),
            ([(0, 0), (1, 0), (0, 1), (1, -1)], 6), ([(0, 0), (1, 0), (-1, 1), (0, -1)], 9), (ZIGZAG, 987),
            (TRIANGLE, 0), (GOBLET, 0), ([(0, 0), (1, 0), (0, 1)], 0),
        ]
        for cells, many in known:
            told = how_many(Coal(cells))
            self.assertEqual(told, many)
            self.assertIs(type(told), int)

    def test_rows_have_one_more_than_cells(self):
        for many in range(1, 15):
            for step in [(1, 0), (0, 1), (1, -1)]:
                self.assertEqual(how_many(Coal(row(many, 4, 4, step))), many + 1)

    def test_as_many_as_are_told(self):
        for coal in coals_to_pair():
            self.assertEqual(how_many(coal), len(pairings_anew(coal)))

    def test_far_off(self):
        for cells in [FLOWER, BENT, TRIANGLE]:
            self.assertEqual(how_many(Coal(moved(cells, BIG, -BIG))), how_many(Coal(cells)))

    def test_coals_stay_as_they_are(self):
        check_own(self, how_many, Coal(FLOWER))

    def test_none_just_where_short(self):
        for coal in coals_to_pair():
            self.assertEqual(how_many(coal) > 0, paired(coal)[0] == "paired")


class Numbers(unittest.TestCase):

    def test_every_number_of_small_coals(self):
        for many, lists in shapes(5):
            for cells in lists:
                self.check_numbers(Coal(cells), 1)

    def test_every_number_of_some_coals(self):
        for cells in [row(9, -4, 2), FLOWER, BLOCK, BENT, grown(10, 1), grown(12, 2), grown(14, 2), grown(14, 22)]:
            self.check_numbers(Coal(cells), 1)

    def test_every_number_of_coals_with_many_pairings(self):
        self.check_numbers(Coal(ZIGZAG), 1)
        self.check_numbers(Coal(BRANCHED), 1)

    def test_numbers_of_big_coals(self):
        for cells in big_coals():
            self.check_numbers(Coal(cells), 13)

    def check_numbers(self, coal, step):
        """The number of each of all pairings and back, or of each so many-th one."""
        found = pairings_anew(coal)
        for number in sorted(set(range(0, len(found), step)) | set(range(len(found) - 1, 0, -97))):
            told = number_of(coal, found[number])
            self.assertEqual(told, number)
            self.assertIs(type(told), int)
            self.assertEqual(pairing_at(coal, number), found[number])

    def test_what_is_no_pairing(self):
        for cells in [row(1), row(3), FLOWER, BRANCHED]:
            coal = Coal(cells)
            for thing in no_pairings(coal, pairings_anew(coal)[1]):
                check_refused(self, NoPairing, number_of, coal, thing)

    def test_what_is_no_number(self):
        for cells in [row(1), row(3), FLOWER, BRANCHED]:
            coal = Coal(cells)
            for thing in no_numbers(how_many(coal)):
                check_refused(self, NoNumber, pairing_at, coal, thing)

    def test_a_coal_without_one(self):
        pairing = pairings_anew(Coal(row(1)))[0]
        for cells in UNPAIRED:
            coal = Coal(cells)
            for thing in no_pairings(coal, pairing) + [pairing, coal.ties()]:
                check_refused(self, NoPairing, number_of, coal, thing)
            for thing in no_numbers(0) + [0, 1]:
                check_refused(self, NoNumber, pairing_at, coal, thing)

    def test_what_is_handed_in_stays(self):
        for cells in [row(4), FLOWER]:
            coal = Coal(cells)
            for number, pairing in enumerate(pairings_anew(coal)):
                check_own(self, number_of, coal, pairing)
                check_own(self, pairing_at, coal, number)

    def test_a_spoilt_pairing_changes_no_answer(self):
        coal = Coal(FLOWER)
        due = pairings_anew(coal)
        for number in range(len(due)):
            spoil(pairing_at(coal, number))
        self.assertEqual(pairings(coal), due)
        self.assertEqual([pairing_at(coal, number) for number in range(len(due))], due)


if __name__ == "__main__":
    unittest.main()
