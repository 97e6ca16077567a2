"""Cells, ties and fractions written, cells and ties read again [29], and what [2] says of them."""

import re
import unittest

from helper import (
    BIG, BRANCHED, FLOWER, check_own, check_refused, coals_to_pair, moved, pairings_anew, row,
)
from sootring.coal import Coal
from sootring.errors import NoText
from sootring.notes import read_cells, read_ties, show_cells, show_fraction, show_ties
from sootring.pairing import paired
from sootring.shares import shares

SIGNS = [chr(code) for code in range(ord(" "), ord("~") + 1)]
FORTY = 10 ** 40 - 1
LEAST_FORTY = 10 ** 39
NUMBERS = [0, 1, -1, 9, 10, -10, 99, 100, 12345678901234567890, LEAST_FORTY, -LEAST_FORTY, FORTY, -FORTY]

CELL_FORM = re.compile(r"(0|-?[1-9][0-9]{0,39}):(0|-?[1-9][0-9]{0,39})")
TIE_FORM = re.compile(r"(0|[1-9][0-9]{0,39})-(0|[1-9][0-9]{0,39})")


def read_anew(text, form):
    """The pairs of numbers that a text tells in this form, or None where it tells none."""
    if text == "none":
        return []
    found = [form.fullmatch(word) for word in re.split(" ", text)]
    if None in found:
        return None
    return [(int(match[1]), int(match[2])) for match in found]


def cells_anew(text):
    return read_anew(text, CELL_FORM)


def ties_anew(text):
    found = read_anew(text, TIE_FORM)
    if found is None or any(one >= other for one, other in found):
        return None
    return found


def changed_by_a_sign(text):
    """The text with a sign more, a sign less, or another sign, at each of its places."""
    for place in range(len(text) + 1):
        yield text[:place] + text[place + 1:]
        for sign in SIGNS:
            yield text[:place] + sign + text[place:]
            yield text[:place] + sign + text[place + 1:]


class Showing(unittest.TestCase):

    def test_cells(self):
        self.assertEqual(show_cells([(2, -1)]), "2:-1")
        self.assertEqual(show_cells([(0, 0), (-3, 10), (0, 0)]), "0:0 -3:10 0:0")
        self.assertEqual(show_cells([(FORTY, -FORTY)]), "9" * 40 + ":-" + "9" * 40)
        self.assertEqual(show_cells([]), "none")

    def test_ties(self):
        self.assertEqual(show_ties([(0, 3), (1, 2)]), "0-3 1-2")
        self.assertEqual(show_ties([(10, 41)]), "10-41")
        self.assertEqual(show_ties([(4, 5), (0, 1), (4, 5)]), "4-5 0-1 4-5")
        self.assertEqual(show_ties([(0, FORTY)]), "0-" + "9" * 40)
        self.assertEqual(show_ties([]), "none")

    def test_fractions(self):
        self.assertEqual(show_fraction((0, 1)), "0")
        self.assertEqual(show_fraction((1, 1)), "1")
        self.assertEqual(show_fraction((1, 2)), "1/2")
        self.assertEqual(show_fraction((12, 35)), "12/35")
        self.assertEqual(show_fraction((-7, 1)), "-7")
        self.assertEqual(show_fraction((-7, 10)), "-7/10")
        self.assertEqual(show_fraction((FORTY, LEAST_FORTY)), "9" * 40 + "/1" + "0" * 39)
        self.assertEqual(show_fraction((FORTY, 1)), "9" * 40)

    def test_what_coals_tell(self):
        for cells in [row(1), FLOWER, BRANCHED]:
            for share in shares(Coal(cells)):
                due = str(share[0]) if share[1] == 1 else f"{share[0]}/{share[1]}"
                self.assertEqual(show_fraction(share), due)
        self.assertEqual(show_ties(pairings_anew(Coal(row(1)))[0]), "0-1 2-5 3-4")

    def test_numbers_of_more_figures_are_not_refused(self):
        self.assertEqual(show_cells([(BIG, -BIG)]), f"{BIG}:-{BIG}")
        self.assertEqual(show_fraction((BIG, 2)), f"{BIG}/2")

    def test_names_of_arguments(self):
        self.assertEqual(show_cells(cells=[(1, 2)]), "1:2")
        self.assertEqual(show_ties(ties=[(1, 2)]), "1-2")
        self.assertEqual(show_fraction(fraction=(1, 2)), "1/2")
        self.assertEqual(read_cells(text="1:2"), [(1, 2)])
        self.assertEqual(read_ties(text="1-2"), [(1, 2)])


class ThereAndBack(unittest.TestCase):

    def test_cells(self):
        cells = [(one, other) for one in NUMBERS for other in NUMBERS]
        lists = [[], cells, cells[::-1], cells[:3] * 2] + [[cell] for cell in cells] + [[cell, cell] for cell in cells]
        for told in lists:
            back = read_cells(show_cells(told))
            self.assertIs(type(back), list)
            self.assertTrue(all(type(cell) is tuple for cell in back))
            self.assertEqual(back, told)

    def test_ties(self):
        numbers = sorted(set(abs(number) for number in NUMBERS))
        ties = [(one, other) for one in numbers for other in numbers if one < other]
        for told in [[], ties, ties[::-1], ties[:3] * 2] + [[tie] for tie in ties] + [[tie, tie] for tie in ties]:
            back = read_ties(show_ties(told))
            self.assertIs(type(back), list)
            self.assertTrue(all(type(tie) is tuple for tie in back))
            self.assertEqual(back, told)

    def test_what_coals_tell(self):
        for coal in coals_to_pair():
            if abs(coal.cells()[0][0]) <= FORTY:
                self.assertEqual(read_cells(show_cells(coal.cells())), coal.cells())
            self.assertEqual(read_ties(show_ties(coal.ties())), coal.ties())
            told = paired(coal)
            if told[0] == "paired":
                self.assertEqual(read_ties(show_ties(told[1])), told[1])

    def test_texts_stay_the_same(self):
        for text in ["none", "0:0", "-1:0 0:-1", "5:5 5:5 4:4", "-10:10"]:
            self.assertEqual(show_cells(read_cells(text)), text)
        for text in ["none", "0-1", "4-5 0-1 4-5", "9-10", "10-100"]:
            self.assertEqual(show_ties(read_ties(text)), text)

    def test_two_hundred(self):
        cells = row(200, -100, 7)
        self.assertEqual(read_cells(show_cells(cells)), cells)
        ties = [(number, number + 1) for number in range(200)]
        self.assertEqual(read_ties(show_ties(ties)), ties)

    def test_long_texts(self):
        cells = moved(row(110), -FORTY + 200, FORTY)
        text = show_cells(cells)
        self.assertGreater(len(text), 9000)
        self.assertEqual(read_cells(text), cells)
        check_refused(self, NoText, read_cells, "7" * 9999)
        check_refused(self, NoText, read_cells, "1:" + "7" * 9990)
        check_refused(self, NoText, read_ties, "1-" + "7" * 9990)
        check_refused(self, NoText, read_ties, "-" * 10000)
        check_refused(self, NoText, read_cells, " " * 10000)


class Refusing(unittest.TestCase):

    def test_no_cells(self):
        long = "1" + "0" * 40
        words = [
            "", " ", "none ", " none", "none none", "none 0:0", "0:0 none", "None", "NONE", "non", "nonee", "n one",
            "0", "0:", ":0", ":", "0:0:0", "0::0", "0:0:", ":0:0", "0;0", "0-1", "0,0", "(0, 0)", "0 0", "0: 0", "0 :0",
            "00:0", "0:00", "01:1", "1:01", "-01:1", "1:-01", "-0:1", "1:-0", "-0:-0", "+1:1", "1:+1", "+0:0", "0:+0",
            "--1:1", "1:--1", "-:1", "1:-", "1-:1", "1:1-", "- 1:1", "1_0:1", "1.0:1", "1e3:1", "0x1:1", "a:b", "1:b",
            long + ":0", "0:" + long, "-" + long + ":0", "0:-" + long, "0:0 " + long + ":0",
            "0:0  1:1", " 0:0", "0:0 ", " 0:0 1:1", "0:0 1:1 ", "0:0 1:1 x", "0:0 1", "0:0,1:1", "0:0/1:1",
        ]
        for word in words:
            self.assertIsNone(cells_anew(word))
            check_refused(self, NoText, read_cells, word)

    def test_no_ties(self):
        long = "1" + "0" * 40
        words = [
            "", " ", "none ", " none", "none none", "none 0-1", "0-1 none", "None", "nonone", "0", "0-", "-0", "-",
            "--",
            "0-1-2", "0--1", "-1-2", "-1--2", "-2--1", "-0-1", "0-1-", "1-0", "0-0", "1-1", "5-3", "10-9", "100-99",
            "0:1", "0,1", "0 1", "0- 1", "0 -1", "00-1", "0-01", "01-2", "1-02", "+0-1", "0-+1", "1_0-11", "a-b", "0-b",
            "0-" + long, long + "-1" + long, "0-1 0-" + long, "0-1  2-3", " 0-1", "0-1 ", " 0-1 2-3", "0-1 2-3 ",
            "0-1 3-2", "3-2 0-1", "0-1 -1-2", "0-1,2-3", "0-1/2-3", "0-1 2-3 x", "short 0-1",
        ]
        for word in words:
            self.assertIsNone(ties_anew(word))
            check_refused(self, NoText, read_ties, word)

    def test_another_sign_anywhere(self):
        seen = [0, 0]
        for ask, anew, texts in [
            (read_cells, cells_anew, ["none", "0:0", "2:-1", "-10:0 7:7", "0:12 -3:-40 0:12"]),
            (read_ties, ties_anew, ["none", "0-3", "0-3 1-2", "9-10 0-99", "19-20 3-4 3-4"]),
        ]:
            for text in texts:
                for changed in changed_by_a_sign(text):
                    due = anew(changed)
                    seen[due is None] += 1
                    if due is None:
                        check_refused(self, NoText, ask, changed)
                    else:
                        self.assertEqual(ask(changed), due, changed)
        self.assertGreater(min(seen), 300)

    def test_a_blank_too_many_at_any_place(self):
        for ask, texts in [
            (read_cells, ["none", "0:0", "-1:20 3:-4 55:6"]),
            (read_ties, ["none", "0-1", "10-20 3-4 55-66"]),
        ]:
            for text in texts:
                for place in range(len(text) + 1):
                    check_refused(self, NoText, ask, text[:place] + " " + text[place:])

    def test_how_many_figures(self):
        for many in range(1, 45):
            text = "7" * many
            due = None if many <= 40 else NoText
            for sign in ["", "-"]:
                self.check_either(due, read_cells, sign + text + ":0", [(int(sign + text), 0)])
                self.check_either(due, read_cells, "0:" + sign + text, [(0, int(sign + text))])
            self.check_either(due, read_ties, "6-" + text, [(6, int(text))])
            self.check_either(due, read_ties, text[:-1] + "6-" + text, [(int(text) - 1, int(text))])

    def check_either(self, due, ask, text, told):
        if due is None:
            self.assertEqual(ask(text), told)
        else:
            check_refused(self, due, ask, text)

    def test_lists_are_the_asker_s_own(self):
        for cells in [[], [(0, 0)], FLOWER]:
            check_own(self, show_cells, cells)
            check_own(self, read_cells, show_cells(cells))
        for ties in [[], [(0, 1)], Coal(FLOWER).ties()]:
            check_own(self, show_ties, ties)
            check_own(self, read_ties, show_ties(ties))
        check_own(self, show_fraction, (3, 4))


if __name__ == "__main__":
    unittest.main()
