"""What [3] says over the whole program: the modules asked together, over coals of all sizes."""

import unittest
from fractions import Fraction

from helper import (
    BENT, BLOCK, BRANCHED, FLOWER, GOBLETS, TRIANGLE, ZIGZAG, coals_to_pair, grown, laid_from_nought, mixed, moved, row,
    shapes,
)
from sootring.book import Book
from sootring.cells import holes
from sootring.coal import Coal
from sootring.desk import Desk
from sootring.errors import Unpaired
from sootring.lifts import lift, road
from sootring.listing import how_many, number_of, pairing_at, pairings
from sootring.notes import read_cells, read_ties, show_ties
from sootring.pairing import is_pairing, paired
from sootring.points import is_light
from sootring.rim import coal_of, least_word, rim
from sootring.rings import most_ringed
from sootring.shares import having, kinds, lacking, shares
from sootring.tables import determinant, table, whole_table
from sootring.turnings import alike, turned
from sootring.turns import highest, lowest, turn, turnable


def coals():
    """Coals of all sizes with and without a pairing, some of each size."""
    lists = [cells for many, found in shapes(3) for cells in found]
    lists += [row(many) for many in range(4, 15)] + [FLOWER, BLOCK, TRIANGLE, BENT, ZIGZAG, BRANCHED] + GOBLETS
    lists += [grown(many, seed) for many in range(4, 15) for seed in range(1, 8)]
    return [Coal(cells) for cells in lists]


def paired_coals():
    return [coal for coal in coals() if paired(coal)[0] == "paired"]


class Whole(unittest.TestCase):

    def test_sizes(self):
        self.assertEqual({coal.many() for coal in paired_coals()}, set(range(1, 15)))
        short = [coal for coal in coals() if paired(coal)[0] == "short"]
        self.assertGreaterEqual({coal.many() for coal in short}, {3, 10, 11, 14})

    def test_paired_or_short_never_both(self):
        for coal in coals():
            kind, told = paired(coal)
            if kind == "paired":
                self.assertTrue(is_pairing(coal, told))
                self.assertEqual(pairing_at(coal, number_of(coal, told)), told)
                continue
            self.assertEqual(kind, "short")
            self.assertEqual(len({is_light(coal.points()[point]) for point in told}), 1)
            self.assertLess(len({other for point in told for other in coal.near(point)}), len(told))
            self.assertEqual((how_many(coal), pairings(coal)), (0, []))
            with self.assertRaises(Unpaired):
                most_ringed(coal)

    def test_as_many_as_the_determinants_tell(self):
        for coal in coals():
            found = pairings(coal)
            self.assertEqual(found, sorted(found))
            self.assertEqual(len(found), len({str(pairing) for pairing in found}))
            self.assertTrue(all(is_pairing(coal, pairing) for pairing in found))
            self.assertEqual(len(found), how_many(coal))
            lights = [is_light(point) for point in coal.points()]
            if lights.count(True) == lights.count(False):
                self.assertEqual(abs(determinant(table(coal))), len(found))
            else:
                self.assertEqual(found, [])
            self.assertEqual(abs(determinant(whole_table(coal))), len(found) ** 2)

    def test_kinds_and_shares(self):
        for coal in paired_coals():
            told = list(zip(coal.ties(), kinds(coal), shares(coal)))
            for number, (tie, kind, share) in enumerate(told):
                due = {"all": (False, True), "some": (False, False), "none": (True, False)}[kind]
                self.assertEqual((having(coal, number) is None, lacking(coal, number) is None), due)
                self.assertEqual(kind, {(0, 1): "none", (1, 1): "all"}.get(share, "some"))
            for point in range(len(coal.points())):
                self.assertEqual(sum(Fraction(*share) for tie, kind, share in told if point in tie), 1)

    def test_each_pairing_is_reached_from_each(self):
        for coal in paired_coals():
            found = pairings(coal)
            some = found[::max(1, len(found) // 3)] + [lowest(coal), highest(coal)]
            for one in some:
                for other in some:
                    here = one
                    cells = road(coal, one, other)
                    for cell in cells:
                        here = turn(coal, here, cell)
                    self.assertEqual(here, other)
                    self.assertEqual(len(cells), sum(map(abs, lift(coal, one, other))))

    def test_turning_down_ends_at_the_lowest(self):
        for coal in paired_coals():
            for k, here in enumerate(mixed(pairings(coal))[:4]):
                down = [cell for cell, up in turnable(coal, here) if not up]
                while down:
                    here = turn(coal, here, down[k % len(down)])
                    down = [cell for cell, up in turnable(coal, here) if not up]
                self.assertEqual(here, lowest(coal))

    def test_the_most_ringed_cells(self):
        for coal in paired_coals():
            cells, ties, weights = most_ringed(coal)
            # Each ringed cell can be ringed by either three of its sides: all of these are pairings.
            for first in (0, 1):
                sides = [coal.ties()[coal.sides(cell)[k]] for cell in cells for k in (first, first + 2, first + 4)]
                self.assertTrue(is_pairing(coal, sorted(ties + sides)))
            self.assertEqual(sum(weights), len(cells))
            self.assertTrue(all(weights[one] + weights[other] >= 0 for one, other in coal.ties()))
            for cell in range(coal.many()):
                self.assertGreaterEqual(sum(weights[point] for point in coal.corners(cell)), 1)

    def test_one_least_word_just_where_alike(self):
        lists = [cells for many, found in shapes(4) for cells in found if holes(cells) == []]
        lists += [turned(cells, way) for cells in (BRANCHED, BENT, grown(14, 1), grown(9, 2)) for way in (0, 3, 8)]
        told = [(Coal(cells), least_word(rim(Coal(cells)))) for cells in lists]
        for one, word in told:
            self.assertIsNotNone(alike(one, coal_of(word)))
            for other, other_word in told:
                self.assertEqual(alike(one, other) is not None, word == other_word)


class AtTheDesk(unittest.TestCase):

    def test_the_book_and_the_desk_tell_the_same(self):
        for coal in coals_to_pair():
            desk, book = Desk(), Book()
            for cell in laid_from_nought(coal.cells())[1:]:
                book.put(cell)
                self.assertEqual(desk.say(f"put {cell[0]}:{cell[1]}"), "ok")
            self.assertEqual(read_cells(desk.say("cells")), book.coal().cells())
            self.assertEqual(desk.say("word"), least_word(rim(coal)))
            self.assertEqual(book.count(), how_many(coal))
            self.assertEqual(desk.say("count"), str(how_many(coal)))
            due = len(most_ringed(coal)[0]) if how_many(coal) else None
            self.assertEqual(book.rings(), due)
            self.assertEqual(desk.say("rings"), "none" if due is None else str(due))
            self.assertEqual(desk.say("news"), "; ".join(book.news()))

    def test_a_way_through_the_rows(self):
        for cells in [FLOWER, ZIGZAG, grown(14, 3), moved(BLOCK, 5, 5)]:
            desk = Desk()
            for cell in laid_from_nought(cells)[1:]:
                desk.say(f"put {cell[0]}:{cell[1]}")
            here = Coal(read_cells(desk.say("cells")))
            self.assertIsNotNone(alike(here, Coal(read_cells(desk.say(f"read {desk.say('word')}")))))
            pairing = read_ties(desk.say("paired"))
            number = desk.say(f"number {show_ties(pairing)}")
            self.assertEqual(desk.say(f"at {number}"), show_ties(pairing))
            last = desk.say(f"at {int(desk.say('count')) - 1}")
            text = show_ties(pairing)
            told = desk.say(f"road {text} / {last}")
            for cell in [] if told == "none" else told.split(" "):
                text = desk.say(f"turn {cell} {text}")
            self.assertEqual(text, last)
            for tie, kind in zip(here.ties(), kinds(here)):
                self.assertEqual(desk.say(f"kind {show_ties([tie])}"), kind)


if __name__ == "__main__":
    unittest.main()
