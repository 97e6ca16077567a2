"""The desk: its rows, what they answer and how they are refused [30], and what [2] says of it."""

import re
import unittest

from helper import (
    BENT, BLOCK, BRANCHED, DOWN, FLOWER, GOBLET, TRIANGLE, UP, ZIGZAG, check_refused, coals_to_pair, grown,
    laid_from_nought, most_ringed_anew, pairings_anew, refusal, row,
)
from sootring.book import Book
from sootring.coal import Coal
from sootring.desk import Desk
from sootring.errors import (
    NoCoal, NoCell, NoNumber, NoPairing, NoRow, NoText, NoTurn, NoWord, SootError, Twice, Unpaired,
)
from sootring.lifts import lift, road
from sootring.listing import number_of, pairing_at
from sootring.pairing import is_pairing, paired
from sootring.rim import coal_of, least_word, rim
from sootring.shares import kinds, shares
from sootring.turns import turn, turnable

SIGNS = [chr(code) for code in range(ord(" "), ord("~") + 1)]
FORTY = 10 ** 40 - 1
THREE_ROUND_A_POINT = [(0, 0), (1, 0), (0, 1)]

ROW_FORMS = re.compile(
    r"cells|word|count|rings|paired|news"
    r"|(put|take|at|kind|share|read) [^ ]*"
    r"|number( [^ ]*)+"
    r"|turn [^ ]*( [^ ]*)+"
    r"|road( (?!/( |$))[^ ]*)+ /( (?!/( |$))[^ ]*)+"
)
NUMBER = r"(?:0|-?[1-9][0-9]{0,39})"
CELL = f"{NUMBER}:{NUMBER}"
TIE = r"(?:0|[1-9][0-9]{0,39})-(?:0|[1-9][0-9]{0,39})"
TIES = f"(?:none|{TIE}(?: {TIE})*)"
TEXT_FORMS = re.compile(
    f"cells|word|count|rings|paired|news|read [^ ]*|(?:put|take) {CELL}|at {NUMBER}|(?:kind|share) {TIE}"
    f"|number {TIES}|turn {CELL} {TIES}|road {TIES} / {TIES}"
)


def form_refused(text):
    """The refusal that the form of a row comes to, or None where what is asked decides."""
    if not ROW_FORMS.fullmatch(text):
        return NoRow
    if not TEXT_FORMS.fullmatch(text):
        return NoText
    if text.split(" ")[0] in ("number", "kind", "share", "turn", "road"):
        if any(int(one) >= int(other) for one, other in re.findall(r"(?<![^ ])(\d+)-(\d+)(?![^ ])", text)):
            return NoText
    return None


def written(pairs, sign):
    return " ".join(f"{one}{sign}{other}" for one, other in pairs) or "none"


def ties_text(ties):
    return written(ties, "-")


def cells_text(cells):
    return written(cells, ":")


def ties_of(text):
    return [] if text == "none" else [tuple(int(number) for number in tie.split("-")) for tie in text.split(" ")]


def number_in(things, thing):
    return things.index(thing) if thing in things else -1


def at_tie(coal, told, text):
    if ties_of(text)[0] not in coal.ties():
        raise NoNumber
    return told[coal.ties().index(ties_of(text)[0])]


def told_of(told):
    return "none" if told is None else str(told)


def paired_text(told):
    return ties_text(told[1]) if told[0] == "paired" else "short " + " ".join(map(str, told[1]))


def share_text(share):
    return str(share[0]) if share[1] == 1 else f"{share[0]}/{share[1]}"


def road_text(coal, text):
    one, other = text.split(" / ")
    return cells_text([coal.cells()[k] for k in road(coal, ties_of(one), ties_of(other))])


def turn_text(coal, text):
    cell, ties = text.split(" ", 1)
    return ties_text(turn(coal, ties_of(ties), number_in(coal.cells(), tuple(map(int, cell.split(":"))))))


def asked_anew(book, text):
    """What the book and the functions answer to a row whose form is as it is due."""
    first, blank, rest = text.partition(" ")
    coal = book.coal()
    return {
        "put": lambda: book.put(tuple(map(int, rest.split(":")))) or "ok",
        "take": lambda: book.take(tuple(map(int, rest.split(":")))) or "ok",
        "cells": lambda: cells_text(coal.cells()),
        "word": book.word,
        "count": lambda: str(book.count()),
        "rings": lambda: told_of(book.rings()),
        "paired": lambda: paired_text(paired(coal)),
        "number": lambda: str(number_of(coal, ties_of(rest))),
        "at": lambda: ties_text(pairing_at(coal, int(rest))),
        "kind": lambda: at_tie(coal, kinds(coal), rest),
        "share": lambda: share_text(at_tie(coal, shares(coal), rest)),
        "turn": lambda: turn_text(coal, rest),
        "road": lambda: road_text(coal, rest),
        "read": lambda: cells_text(coal_of(rest).cells()),
        "news": lambda: "; ".join(book.news()) or "none",
    }[first]()


def outcome(ask, *given):
    """The answer, or the class of the refusal."""
    try:
        return ask(*given)
    except SootError as error:
        return type(error)


def desk_and_book(cells):
    """A desk, and a book that is led along, with the coal of these cells, laid so that the first one is (0, 0)."""
    desk, book = Desk(), Book()
    for cell in laid_from_nought(cells)[1:]:
        desk.say(f"put {cell[0]}:{cell[1]}")
        book.put(cell)
    return desk, book


def desk_of(cells):
    return desk_and_book(cells)[0]


def some_rows(coal):
    """A row of each kind and more, that a desk with this coal answers or refuses by what is asked."""
    last = coal.cells()[-1]
    rows = [
        "cells", "word", "count", "rings", "paired", "news", "put 0:0", "put 40:-40", f"put {last[0] + 1}:{last[1]}",
        f"take {last[0]}:{last[1]}", "take 0:0", "take 40:40", "at 0", "at 1", "at -1", "at 99999", f"at {FORTY}",
        "kind 0-1", "kind 0-77", "share 0-1", "share 2-3", "share 0-77", "number none", "number 0-1", "read rrrrrr",
        "read rl", "read ", "read none", "turn 0:0 none", "turn 9:9 0-1", "road none / none", "road 0-1 / 0-1 1-2",
    ]
    found = pairings_anew(coal)
    for one in found[:1] + found[-1:]:
        rows += [f"number {ties_text(one)}", f"turn 0:0 {ties_text(one)}", f"turn 50:50 {ties_text(one)}"]
        rows += [f"number {ties_text(one[::-1])}", f"turn 50:50 {ties_text(one[:-1])}"]
        rows += [f"road {ties_text(one)} / {ties_text(found[0])}", f"road {ties_text(one)} / {ties_text(one[1:])}"]
    return rows


class Rows(unittest.TestCase):

    def check(self, desk, rows):
        for text, due in rows:
            told = desk.say(text)
            self.assertIs(type(told), str)
            self.assertEqual(told, due, text)

    def test_one_cell(self):
        up, down = "0-1 2-5 3-4", "0-3 1-2 4-5"
        self.assertEqual((ties_of(up), ties_of(down)), (UP, DOWN))
        self.check(Desk(), [
            ("cells", "0:0"), ("word", "rrrrrr"), ("news", "none"), ("rings", "1"), ("count", "2"),
            ("news", "rings rrrrrr; count rrrrrr"), ("news", "none"), ("count", "2"), ("news", "none"),
            ("at 0", up), ("at 1", down), (f"number {up}", "0"), (f"number {down}", "1"),
            ("kind 0-1", "some"), ("share 0-1", "1/2"), ("share 4-5", "1/2"),
            (f"turn 0:0 {up}", down), (f"turn 0:0 {down}", up), (f"road {up} / {down}", "0:0"),
            (f"road {down} / {up}", "0:0"), (f"road {up} / {up}", "none"), ("read rrrrrr", "0:0"),
        ])

    def test_cells_put_and_taken(self):
        self.check(Desk(), [
            ("put 1:0", "ok"), ("cells", "0:0 1:0"), ("word", "lrrrrlrrrr"), ("count", "3"), ("rings", "1"),
            ("put 1:-1", "ok"), ("cells", "0:0 1:-1 1:0"), ("take 1:0", "ok"), ("take 0:0", "ok"), ("cells", "1:-1"),
            ("word", "rrrrrr"), ("put 0:0", "ok"), ("put -1:1", "ok"), ("cells", "-1:1 0:0 1:-1"),
            ("news", "count lrrrrlrrrr; rings lrrrrlrrrr"),
        ])

    def test_a_coal_without_a_pairing(self):
        for cells in [THREE_ROUND_A_POINT, TRIANGLE, GOBLET]:
            desk, book = desk_and_book(cells)
            self.check(desk, [("count", "0"), ("rings", "none")])
            word = least_word(rim(Coal(cells)))
            self.check(desk, [("news", f"count {word}; rings {word}"), ("rings", "none"), ("news", "none")])
            told = desk.say("paired").split(" ")
            self.assertEqual(told[0], "short")
            points = [int(number) for number in told[1:]]
            near = {other for point in points for other in book.coal().near(point)}
            self.assertLess(len(near), len(points))

    def test_paired(self):
        for coal in coals_to_pair():
            desk, book = desk_and_book(coal.cells())
            told = desk.say("paired")
            if pairings_anew(coal):
                self.assertTrue(is_pairing(book.coal(), ties_of(told)))
            else:
                self.assertRegex(told, r"^short( [0-9]+)+$")

    def test_numbers_and_pairings(self):
        for cells in [row(3), FLOWER, BLOCK, grown(9, 1)]:
            desk, book = desk_and_book(cells)
            for number, pairing in enumerate(pairings_anew(book.coal())):
                self.assertEqual(desk.say(f"at {number}"), ties_text(pairing))
                self.assertEqual(desk.say(f"number {ties_text(pairing)}"), str(number))

    def test_kinds_and_shares(self):
        bridged = [(0, 1), (0, 2), (1, 1), (2, 1), (3, 0), (3, 1)]
        seen = set()
        for cells in [row(2), FLOWER, bridged]:
            desk, book = desk_and_book(cells)
            found = pairings_anew(book.coal())
            for tie in book.coal().ties():
                many = sum(tie in pairing for pairing in found)
                kind = desk.say(f"kind {tie[0]}-{tie[1]}")
                self.assertEqual(kind, {0: "none", len(found): "all"}.get(many, "some"))
                share = desk.say(f"share {tie[0]}-{tie[1]}")
                top, slash, bottom = share.partition("/")
                self.assertEqual(int(top) * len(found), many * int(bottom or 1))
                seen.update([kind, share])
        self.assertGreaterEqual(seen, {"all", "some", "none", "0", "1", "1/3", "2/3"})

    def test_turns(self):
        for cells in [row(3), FLOWER, ZIGZAG]:
            desk, book = desk_and_book(cells)
            coal = book.coal()
            for pairing in pairings_anew(coal)[::7]:
                can = dict(turnable(coal, pairing))
                for number, cell in enumerate(coal.cells()):
                    text = f"turn {cell[0]}:{cell[1]} {ties_text(pairing)}"
                    if number in can:
                        self.assertEqual(desk.say(text), ties_text(turn(coal, pairing, number)))
                    else:
                        check_refused(self, NoTurn, desk.say, text)

    def test_roads(self):
        for cells in [row(3), FLOWER, BENT]:
            desk, book = desk_and_book(cells)
            coal = book.coal()
            found = pairings_anew(coal)[::5]
            for one in found:
                for other in found:
                    told = desk.say(f"road {ties_text(one)} / {ties_text(other)}")
                    here = ties_text(one)
                    cells_turned = [] if told == "none" else told.split(" ")
                    for cell in cells_turned:
                        here = desk.say(f"turn {cell} {here}")
                    self.assertEqual(here, ties_text(other))
                    self.assertEqual(len(cells_turned), sum(map(abs, lift(coal, one, other))))

    def test_read_leaves_the_book_as_it_was(self):
        desk = desk_of(FLOWER)
        before = [desk.say("cells"), desk.say("word")]
        for cells in [row(1), row(14), BRANCHED, TRIANGLE]:
            word = rim(Coal(cells))
            self.assertEqual(desk.say(f"read {word}"), cells_text(coal_of(word).cells()))
            self.assertEqual([desk.say("cells"), desk.say("word")], before)
        self.assertEqual(desk.say("news"), "none")
        self.assertEqual(desk.say("read lrrrrlrrrr"), "0:0 1:0")

    def test_only_counts_and_rings_are_news(self):
        desk = desk_of(row(3))
        pairing = desk.say("at 0")
        for text in ["cells", "word", "paired", f"number {pairing}", "kind 0-1", "share 0-1", "read rrrrrr",
                     f"road {pairing} / {pairing}", "put 0:-1", "take 0:-1", "news"]:
            desk.say(text)
        self.assertEqual(desk.say("news"), "none")

    def test_as_the_book_and_the_functions_answer(self):
        lists = [row(1), row(2), THREE_ROUND_A_POINT, FLOWER, GOBLET, BLOCK, BENT, ZIGZAG, row(14), grown(14, 3)]
        for cells in lists + [grown(many, 2) for many in range(3, 14)]:
            desk, book = desk_and_book(cells)
            for text in some_rows(book.coal()) + ["cells", "news"]:
                self.assertIsNone(form_refused(text), text)
                self.assertEqual(outcome(desk.say, text), outcome(asked_anew, book, text), text)

    def test_each_coal(self):
        for coal in coals_to_pair():
            desk = desk_of(coal.cells())
            self.assertEqual(desk.say("cells"), cells_text(sorted(laid_from_nought(coal.cells()))))
            self.assertEqual(desk.say("word"), least_word(rim(coal)))
            self.assertEqual(desk.say("count"), str(len(pairings_anew(coal))))
            self.assertEqual(desk.say("rings"), told_of(most_ringed_anew(coal)))

    def test_names_of_arguments(self):
        self.assertEqual(Desk().say(row="cells"), "0:0")

    def test_two_desks(self):
        one, other = Desk(), Desk()
        one.say("put 1:0")
        one.say("count")
        self.assertEqual([other.say("cells"), other.say("news")], ["0:0", "none"])
        other.say("put 1:0")
        other.say("count")
        self.assertEqual(other.say("news"), "count lrrrrlrrrr")
        self.assertEqual(one.say("news"), "count lrrrrlrrrr")
        self.assertEqual(Desk().say("cells"), "0:0")


class Refusing(unittest.TestCase):

    def check(self, due, texts):
        desk = Desk()
        for text in texts:
            check_refused(self, due, desk.say, text)
        self.assertEqual([desk.say("cells"), desk.say("news")], ["0:0", "none"])

    def test_another_first_word(self):
        self.check(NoRow, [
            "", " ", "  ", "x", "Put 0:1", "PUT 0:1", "cell", "cellss", "cells0", "puts 0:1", "none", "ok", "short",
            "/",
            "0:0", "0-1", "rrrrrr", "coal", "lift 0-1", "lowest", "turnable 0-1", "kinds 0-1", "shares", "pairings",
            " cells", " put 0:1", "  put 0:1", "x put 0:1", "0:1 put", "cells;", "news\\", "~", "!", "'cells'",
        ])

    def test_too_few_words(self):
        self.check(NoRow, [
            "put", "take", "number", "at", "kind", "share", "turn", "turn 0:0", "turn ", "turn x", "road", "road 0-1",
            "road /", "road / 0-1", "road 0-1 /", "road x y", "read",
        ])

    def test_too_many_words(self):
        self.check(NoRow, [
            "put 0:1 1:0", "put 0:1 ", "put  0:1", "put x y", "take 0:0 0:0", "take 0:0 ", "take  0:0", "cells x",
            "cells ", "word x", "word ", "count x", "count ", "rings x", "rings ", "paired x", "paired ", "at 0 0",
            "at 0 ", "at  0", "kind 0-1 2-3", "kind 0-1 ", "kind  0-1", "share 0-1 2-3", "share 0-1 ", "share  0-1",
            "read rrrrrr rrrrrr", "read rrrrrr ", "read  rrrrrr", "read  ", "news x", "news ", "news news",
        ])

    def test_roads_without_just_one_stroke(self):
        up = ties_text(UP)
        self.check(NoRow, [
            f"road {up}", f"road {up} {up}", f"road {up} / {up} / {up}", f"road / {up}", f"road {up} /", "road / /",
            "road / / /", f"road / {up} /", f"road {up} / /", f"road / / {up}", f"road {up} // {up}", f"road {up}/{up}",
            f"road {up} /{up}", f"road {up}/ {up}", "road x y z", "road none none", "road / none", "road none /",
            f"road {up} \\ {up}", f"road {up} : {up}", "road   ", "road  /", "road / x / y",
        ])

    def test_no_text(self):
        up = ties_text(UP)
        self.check(NoText, [
            "put ", "put x", "put none", "put 0", "put 0-1", "put 00:1", "put +0:1", "put -0:1", "put 0:1:0",
            "put (0,1)",
            "put " + "1" * 41 + ":0", "put 0:0:0", "take ", "take none", "take x", "take 0:-0", "take 0;0",
            "at ", "at x", "at none", "at 00", "at -0", "at +0", "at 0-1", "at 0:0", "at " + "1" * 41, "at --1",
            "at 1.0",
            "at -" + "1" * 41, "at 1_0",
            "kind ", "kind none", "kind 0", "kind 1-0", "kind 0-0", "kind -1-0", "kind 0:1", "kind 00-1", "kind x",
            "share ", "share none", "share 3-0", "share 1-1", "share 0-1-2", "share 0/1", "share 0-" + "1" * 41,
            "number ", "number  ", "number x", "number none none", "number none 0-1", "number 0-1 none", "number 1-0",
            f"number {up} ", f"number  {up}", f"number {up} x", f"number {up} /", "number 0-1  2-5 3-4",
            "number 0-1,2-5",
            "turn  ", "turn  none", "turn 0:0 ", "turn x none", "turn none none", f"turn  0:0 {up}", f"turn 0:0 {up} ",
            f"turn 0:0  {up}", f"turn 0-1 {up}", f"turn 0 {up}", "turn 0:0 x", "turn 0:0 none none", "turn 0:0 0:0 0-1",
            f"turn -0:0 {up}", f"turn {up}", f"turn 0:0 {up} /", "turn 0:0 1-0",
            "road  / ", f"road  / {up}", f"road {up} / ", f"road x / {up}", f"road {up} / x", f"road  {up} / {up}",
            f"road {up}  / {up}", f"road {up} /  {up}", f"road {up} / {up} ", f"road none none / {up}",
            f"road {up} / none 0-1", "road 1-0 / 0-1", "road 0-1 / 1-0", "road 0:0 / 0:0", f"road {up} // / {up}",
        ])

    def test_any_word_may_be_read(self):
        self.check(NoWord, [
            "read ", "read x", "read none", "read r", "read rrrrr", "read rrrrrrr", "read llllll", "read RRRRRR",
            "read 0:0", "read 0-1", "read /", "read ~", "read " + "r" * 59, "read " + "rl" * 5000,
        ])

    def test_no_text_behind_no_row(self):
        self.check(NoRow, [
            "put x y", "take x y", "at x y", "kind x y", "share x y", "turn x", "road x", "road x / y / z", "cells x",
            "put 00:0 00:0", "kind 1-0 1-0", "road 1-0", "road 1-0 /",
        ])

    def test_what_is_asked_behind_no_text(self):
        # Where two are due, what is no text comes first, whatever the coal is.
        desk = desk_of(THREE_ROUND_A_POINT)
        for text, due in [
            ("kind 1-0", NoText), ("kind 0-1", Unpaired), ("kind 0-99", Unpaired), ("share x", NoText),
            ("share 0-99", Unpaired), ("share 0-1", Unpaired), ("at 0", NoNumber), ("at x", NoText),
            ("number none", NoPairing), ("number x", NoText), ("turn 9:9 0-1", NoPairing), ("turn 9:9 x", NoText),
            ("turn x 0-1", NoText), ("turn 0:0 none", NoPairing), ("road none / none", NoPairing),
            ("road none / x", NoText), ("road x / none", NoText), ("put 0:0", Twice), ("put 9:9", NoCoal),
            ("take 9:9", NoCell), ("put 00:0", NoText),
        ]:
            check_refused(self, due, desk.say, text)

    def test_what_is_asked_in_its_order(self):
        desk = desk_of(row(3))
        one = desk.say("at 0")
        for text, due in [
            ("kind 0-99", NoNumber), ("share 0-99", NoNumber), (f"kind 0-{FORTY}", NoNumber), ("kind 0-5", NoNumber),
            ("at -1", NoNumber), ("at 4", NoNumber), (f"at {FORTY}", NoNumber), (f"at -{FORTY}", NoNumber),
            (f"turn 9:9 {one}", NoNumber), (f"turn {FORTY}:-{FORTY} {one}", NoNumber), (f"turn -1:0 {one}", NoNumber),
            ("turn 9:9 none", NoPairing), ("turn 0:0 0-1", NoPairing), (f"turn 9:9 {one} {one}", NoPairing),
            (f"road {one} / none", NoPairing), (f"road none / {one}", NoPairing), (f"road {one} / 0-1", NoPairing),
            (f"number {one} {one}", NoPairing), (f"number 0-{FORTY}", NoPairing), ("number 0-1", NoPairing),
            ("put 1:0", Twice), ("put 5:0", NoCoal), (f"put {FORTY}:{-FORTY}", NoCoal), ("take 5:0", NoCell),
            ("take 1:0", NoCoal), (f"take {-FORTY}:0", NoCell),
        ]:
            check_refused(self, due, desk.say, text)
        self.assertEqual(desk.say("cells"), "0:0 1:0 2:0")
        check_refused(self, NoTurn, desk.say, f"turn 2:0 {one}")
        self.assertIsNone(refusal(desk.say, f"turn 0:0 {one}"))

    def test_ties_are_asked_as_they_stand(self):
        desk, book = desk_and_book(FLOWER)
        for pairing in pairings_anew(book.coal())[::4]:
            for ties in [pairing[::-1], pairing[1:] + pairing[:1], pairing[:1] + pairing, pairing[:-1]]:
                text = ties_text(ties)
                check_refused(self, NoPairing, desk.say, f"number {text}")
                check_refused(self, NoPairing, desk.say, f"turn 0:0 {text}")
                check_refused(self, NoPairing, desk.say, f"road {text} / {ties_text(pairing)}")
                check_refused(self, NoPairing, desk.say, f"road {ties_text(pairing)} / {text}")

    def test_the_last_cell_and_a_fifteenth(self):
        check_refused(self, NoCoal, Desk().say, "take 0:0")
        for cells in [row(14), BLOCK, BRANCHED]:
            desk, book = desk_and_book(cells)
            last = book.coal().cells()[-1]
            before = desk.say("cells")
            check_refused(self, NoCoal, desk.say, f"put {last[0] + 1}:{last[1]}")
            check_refused(self, Twice, desk.say, f"put {last[0]}:{last[1]}")
            self.assertEqual(desk.say("cells"), before)


class Changed(unittest.TestCase):

    def check_changed(self, desk, book, changed):
        """What is refused by its form, or else answered or refused as by the book and the functions."""
        due = form_refused(changed) or outcome(asked_anew, book, changed)
        self.assertEqual(outcome(desk.say, changed), due, changed)
        return due

    def test_a_blank_too_many_at_any_place(self):
        for cells in [row(1), row(3), THREE_ROUND_A_POINT]:
            desk, book = desk_and_book(cells)
            seen = set()
            for text in some_rows(book.coal()):
                for place in range(len(text) + 1):
                    changed = text[:place] + " " + text[place:]
                    self.assertIn(self.check_changed(desk, book, changed), (NoRow, NoText), changed)
                    seen.add(form_refused(changed))
            self.assertEqual(seen, {NoRow, NoText})
            self.assertEqual(desk.say("cells"), cells_text(book.coal().cells()))
            self.assertEqual(desk.say("news"), "none")

    def test_another_sign_anywhere(self):
        for cells in [row(1), row(2)]:
            desk, book = desk_and_book(cells)
            for text in some_rows(book.coal()):
                if len(text) > 40:
                    continue
                for place in range(len(text) + 1):
                    self.check_changed(desk, book, text[:place] + text[place + 1:])
                    for sign in SIGNS:
                        self.check_changed(desk, book, text[:place] + sign + text[place:])
                        self.check_changed(desk, book, text[:place] + sign + text[place + 1:])
                self.assertEqual(desk.say("cells"), cells_text(book.coal().cells()))

    def test_a_word_more_or_less(self):
        desk, book = desk_and_book(row(2))
        for text in some_rows(book.coal()):
            words = text.split(" ")
            for place in range(len(words) + 1):
                self.check_changed(desk, book, " ".join(words[:place] + words[place + 1:]))
                for word in ["", "/", "none", "0:0", "0-1", "7", "x", "put", "-1"]:
                    self.check_changed(desk, book, " ".join(words[:place] + [word] + words[place:]))
                    self.check_changed(desk, book, " ".join(words[:place] + [word] + words[place + 1:]))
        self.assertEqual(desk.say("cells"), cells_text(book.coal().cells()))

    def test_what_is_refused_changes_nothing(self):
        desk = desk_of(FLOWER)
        desk.say("count")
        before = [desk.say("cells"), desk.say("word")]
        for text in ["put 0:0", "put 30:0", "take 30:0", "take x", "number none", "at -1", "at 20", "kind 0-99",
                     "turn 0:0 none", "road none / none", "read l", "x", "news x", "count x", "rings x", "put 1:1 1:1"]:
            self.assertIsNotNone(refusal(desk.say, text))
            self.assertEqual([desk.say("cells"), desk.say("word")], before)
        self.assertEqual(desk.say("news"), "count " + before[1])


if __name__ == "__main__":
    unittest.main()
