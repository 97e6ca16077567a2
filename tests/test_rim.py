"""The word of the rim [12], least words [13], words read to coals or refused [14]; and [3] on least words."""

import itertools
import unittest

from helper import (
    BENT, BIG, BLOCK, BRANCHED, FLOWER, GOBLET, GOBLETS, TRIANGLE, ZIGZAG, big_coals, check_own, check_refused, grown,
    mixed, moved, row, shapes, some_coals,
)
from sootring.cells import beside, holes
from sootring.coal import Coal
from sootring.errors import NoWord
from sootring.points import corners_of
from sootring.rim import coal_of, least_word, rim
from sootring.turnings import alike, turned


def lists_to_go_round():
    lists = some_coals() + big_coals() + GOBLETS
    return lists + [grown(many, seed) for many in range(5, 14) for seed in range(6)]


def rim_ways(cells):
    """For each point of the rim the cell and the side that the rim goes along from there, by the corners alone."""
    found = {}
    for cell in cells:
        for k, other in enumerate(beside(cell)):
            if other not in cells:
                found[corners_of(cell)[k]] = (cell, k)
    return found


def rim_places(cells):
    """The cells and sides along the rim, in order, as [12] tells where it begins."""
    ways = rim_ways(cells)
    cell = sorted(cells, key=lambda one: (one[1], one[0]))[0]
    start = (cell[0], cell[1], 0)
    found = [ways[start]]
    while True:
        last, side = found[-1]
        end = corners_of(last)[(side + 1) % 6]
        if end == start:
            return found
        found.append(ways[end])


def rim_anew(cells):
    """The word, each letter by how many cells have the point at the end of the tie as a corner."""
    letters = []
    for cell, side in rim_places(cells):
        end = corners_of(cell)[(side + 1) % 6]
        many = sum(end in corners_of(other) for other in cells)
        letters.append({1: "r", 2: "l"}[many])
    return "".join(letters)


def begun(word):
    """The word begun at each of its letters."""
    return [word[k:] + word[:k] for k in range(len(word))]


class Rim(unittest.TestCase):

    def test_known_words(self):
        self.assertEqual(rim(Coal([(0, 0)])), "rrrrrr")
        self.assertEqual(rim(Coal([(0, 0), (1, 0)])), "lrrrrlrrrr")
        self.assertEqual(rim(Coal([(0, 0), (0, 1)])), "rlrrrrlrrr")
        self.assertEqual(rim(Coal([(0, 0), (1, -1)])), "rrlrrrrlrr")
        self.assertEqual(rim(Coal([(0, 0), (1, 0), (0, 1)])), "lrrrlrrrlrrr")
        self.assertEqual(rim(Coal(FLOWER)), "lrr" * 6)
        self.assertEqual(rim(Coal(row(4))), "lrlrlrrrrlrlrlrrrr")

    def test_wherever_one_cell_lies(self):
        for cell in [(0, 0), (4, -9), (BIG, -BIG), (-BIG, BIG)]:
            self.assertEqual(rim(Coal([cell])), "rrrrrr")

    def test_against_the_corners(self):
        for cells in lists_to_go_round():
            told = rim(Coal(mixed(cells)))
            self.assertIs(type(told), str)
            self.assertEqual(told, rim_anew(cells))

    def test_every_small_coal(self):
        for many, lists in shapes(6):
            for cells in lists:
                if holes(cells) == []:
                    self.assertEqual(rim(Coal(cells)), rim_anew(cells))

    def test_a_letter_for_each_tie_of_just_one_cell(self):
        for cells in lists_to_go_round():
            coal = Coal(cells)
            sides = sum([coal.sides(k) for k in range(coal.many())], [])
            once = [tie for tie in range(len(coal.ties())) if sides.count(tie) == 1]
            told = rim(coal)
            self.assertEqual(len(told), len(once))
            self.assertEqual(told.count("r") + told.count("l"), len(told))
            self.assertEqual(told.count("r") - told.count("l"), 6)

    def test_shifted_far_off(self):
        for cells in [row(14), BENT, ZIGZAG, BRANCHED, FLOWER, GOBLET, grown(14, 3)]:
            for a, b in [(5, -8), (-3, 2), (BIG, -BIG), (-BIG, -BIG), (1, BIG)]:
                self.assertEqual(rim(Coal(moved(cells, a, b))), rim(Coal(cells)))

    def test_rows_of_each_size_and_direction(self):
        for many in range(2, 15):
            for step in beside((0, 0)):
                told = rim(Coal(row(many, 2, 5, step)))
                self.assertEqual(told, rim_anew(row(many, 2, 5, step)))
                half = "lr" * (many - 2) + "lrrrr"
                self.assertIn(told, begun(half + half))

    def test_the_last_letter_is_the_turn_where_it_began(self):
        for cells in lists_to_go_round():
            self.assertEqual(rim(Coal(cells))[-1], "r")

    def test_coals_stay_as_they_are(self):
        for cells in [FLOWER, BENT]:
            check_own(self, rim, Coal(cells))

    def test_names_of_arguments(self):
        self.assertEqual(rim(coal=Coal([(0, 0)])), "rrrrrr")
        self.assertEqual(least_word(word="rl"), "lr")
        self.assertEqual(coal_of(word="rrrrrr").cells(), [(0, 0)])


def least_anew(word):
    return min(begun(word) + begun(word[::-1]))


class LeastWord(unittest.TestCase):

    def test_one_letter(self):
        self.assertEqual(least_word("r"), "r")
        self.assertEqual(least_word("l"), "l")

    def test_known_words(self):
        self.assertEqual(least_word("rl"), "lr")
        self.assertEqual(least_word("rrrrrr"), "rrrrrr")
        self.assertEqual(least_word("lrrrrlrrrr"), "lrrrrlrrrr")
        self.assertEqual(least_word("rrlrrrrlrr"), "lrrrrlrrrr")
        self.assertEqual(least_word("rrlrll"), "llrlrr")

    def test_words_that_repeat_themselves(self):
        self.assertEqual(least_word("rlrlrl"), "lrlrlr")
        self.assertEqual(least_word("rrl" * 6), "lrr" * 6)
        self.assertEqual(least_word("l" * 58), "l" * 58)
        self.assertEqual(least_word("rllrl" * 4), "llrlr" * 4)

    def test_read_forwards_or_backwards(self):
        # The first is the least as it stands, the second is its own reading backwards, begun elsewhere.
        word = "lllrllrr"
        self.assertNotIn(word, begun(word[::-1]))
        self.assertEqual(least_word(word), word)
        self.assertEqual(least_word(word[::-1]), word)

    def test_every_short_word(self):
        for many in range(1, 11):
            for letters in itertools.product("lr", repeat=many):
                word = "".join(letters)
                self.assertEqual(least_word(word), least_anew(word))

    def test_the_same_wherever_begun_and_either_way(self):
        for cells in lists_to_go_round():
            word = rim(Coal(cells))
            due = least_anew(word)
            for other in begun(word)[::5] + begun(word[::-1])[::7]:
                self.assertEqual(least_word(other), due)

    def test_long_words(self):
        for word in ["r" * 199 + "l", "lr" * 100, "llr" * 60 + "lr" * 10, "r" * 1000 + "l" * 1000]:
            self.assertEqual(least_word(word), least_anew(word))
            self.assertEqual(least_word(word[7:] + word[:7]), least_anew(word))


class AlikeByWord(unittest.TestCase):

    def test_each_two_small_coals(self):
        coals = [Coal(cells) for many, lists in shapes(4) for cells in lists]
        for one in coals:
            for other in coals:
                same = least_word(rim(one)) == least_word(rim(other))
                self.assertEqual(same, alike(one, other) is not None)

    def test_each_two_big_coals(self):
        lists = big_coals()
        coals = [Coal(cells) for cells in lists + [turned(cells, 2 + k % 9) for k, cells in enumerate(lists)]]
        for one in coals:
            for other in coals:
                same = least_word(rim(one)) == least_word(rim(other))
                self.assertEqual(same, alike(one, other) is not None)

    def test_each_turning_has_the_same_word(self):
        for cells in lists_to_go_round():
            due = least_word(rim(Coal(cells)))
            for way in range(12):
                self.assertEqual(least_word(rim(Coal(turned(cells, way)))), due)

    def test_mirrored_coals_have_words_read_backwards(self):
        for cells in lists_to_go_round():
            mirrored = rim(Coal([(b, a) for a, b in cells]))
            self.assertIn(mirrored, begun(rim(Coal(cells))[::-1]))

    def test_as_many_words_as_kinds_of_coals_are_known(self):
        words = []
        for many, lists in shapes(7):
            found = {least_word(rim(Coal(cells))) for cells in lists if holes(cells) == []}
            words.append(len(found))
        self.assertEqual(words, [1, 1, 3, 7, 22, 81, 331])


STEP_BY = [(1, 0), (0, 1), (-1, 1), (-1, 0), (0, -1), (1, -1)]


def is_word(word):
    """Whether a row of letters r and l tells a coal, by the points of the way and the area that it goes round."""
    points = [(0, 0)]
    way = 0
    for letter in word:
        points.append((points[-1][0] + STEP_BY[way][0], points[-1][1] + STEP_BY[way][1]))
        way = (way + (1 if letter == "r" else -1)) % 6
    if points[-1] != points[0] or way != 0 or len(set(points)) < len(word):
        return False
    twice = sum(one[0] * other[1] - one[1] * other[0] for one, other in zip(points, points[1:]))
    # One cell, gone round to the right, has the area 3 in these steps.
    return 0 < len(word) <= 58 and 6 <= twice <= 6 * 14


class CoalOf(unittest.TestCase):

    def check_refused(self, word):
        check_refused(self, NoWord, coal_of, word)

    def test_known_words(self):
        self.assertEqual(coal_of("rrrrrr").cells(), [(0, 0)])
        self.assertEqual(coal_of("lrrrrlrrrr").cells(), [(0, 0), (1, 0)])
        self.assertEqual(coal_of("rlrrrrlrrr").cells(), [(0, 0), (0, 1)])
        self.assertEqual(coal_of("rrlrrrrlrr").cells(), [(0, 1), (1, 0)])
        self.assertEqual(coal_of("rrrlrrrrlr").cells(), [(0, 0), (1, 0)])
        self.assertEqual(coal_of("lrrrlrrrlrrr").cells(), [(0, 0), (0, 1), (1, 0)])
        self.assertEqual(coal_of("rlrrrlrrrlrr").cells(), [(0, 1), (1, 0), (1, 1)])
        self.assertEqual(coal_of("rrlrrrlrrrlr").cells(), [(0, 0), (0, 1), (1, 0)])

    def check_begun(self, cells, letters):
        """The word of a coal, begun at some of its letters, against the cells turned as [14] says."""
        word = rim_anew(cells)
        for k, place in enumerate(rim_places(cells)):
            if k in letters:
                told = coal_of(word[k:] + word[:k])
                self.assertIsInstance(told, Coal)
                # The side that the rim begins with comes to be side 0.
                self.assertEqual(told.cells(), turned(cells, (6 - place[1]) % 6))

    def test_the_word_of_a_coal(self):
        for cells in lists_to_go_round():
            told = coal_of(rim(Coal(cells)))
            self.assertEqual(told.cells(), turned(cells, 0))
            self.assertEqual(rim(told), rim(Coal(cells)))

    def test_begun_at_any_letter(self):
        for cells in lists_to_go_round():
            self.check_begun(cells, range(58))

    def test_every_small_coal(self):
        for many, lists in shapes(6):
            for cells in lists:
                if holes(cells) == []:
                    self.check_begun(cells, [0, 1, 6, 11])

    def test_told_coal_has_the_text_along_its_rim(self):
        for cells in lists_to_go_round():
            word = rim(Coal(cells))
            for other in begun(word)[::6] + begun(word[::-1])[::11]:
                self.assertIn(other, begun(rim(coal_of(other))))

    def test_cells_that_no_side_of_the_rim_belongs_to(self):
        self.assertEqual(coal_of("lrr" * 6).many(), 7)
        for cells in [FLOWER + row(7, 2, 0), FLOWER + row(6, -2, 1, (-1, 0)), FLOWER + moved([(1, 0), (0, 1)], 1, 0)]:
            self.check_begun(cells, range(58))

    def test_every_short_text_of_letters(self):
        due = set()
        for many, lists in shapes(4):
            for cells in lists:
                due.update(word for word in begun(rim_anew(cells)) if len(word) <= 14)
        for many in range(1, 15):
            for letters in itertools.product("lr", repeat=many):
                word = "".join(letters)
                if word in due:
                    self.assertEqual(least_word(rim(coal_of(word))), least_word(word))
                else:
                    self.check_refused(word)

    def test_words_with_some_letters_changed(self):
        other = {"r": "l", "l": "r"}
        seen = {True: 0, False: 0}
        for cells in lists_to_go_round()[::2] + [BLOCK, TRIANGLE]:
            word = rim(Coal(cells))
            for k in range(0, len(word) - 1, 2):
                for far in (1, 2, 3, 5):
                    letters = list(word)
                    n = (k + far) % len(word)
                    letters[k], letters[n] = letters[n], letters[k]
                    self.check_either("".join(letters), seen)
                self.check_either(word[:k] + other[word[k]] + word[k + 1:], seen)
                self.check_either(word[:k] + word[k + 1:], seen)
                self.check_either(word[:k] + "lrrl" + word[k:], seen)
        self.assertGreater(min(seen.values()), 100)

    def check_either(self, word, seen):
        due = is_word(word)
        seen[due] += 1
        if due:
            self.assertIn(word, begun(rim(coal_of(word))))
        else:
            self.check_refused(word)

    def test_no_sign(self):
        self.check_refused("")

    def test_another_sign(self):
        for text in [" ", "a", "R", "RRRRRR", "rrrrr ", " rrrrrr", "rrrrrr ", "rrr rrr", "rrrrrr.", "rrrrrR", "rrrrr1",
                     "llllll ", "none", "word", "~", "rrrrrr~", "0:0", "r" * 57 + "x"]:
            self.check_refused(text)
        for sign in map(chr, range(32, 127)):
            if sign not in "rl":
                self.check_refused("rrr" + sign + "rr")
                self.check_refused("rrrrrr" + sign)
                self.check_refused("lrrrrl" + sign + "rrr")

    def test_too_many_signs(self):
        for text in ["r" * 59, "rrrrrr" * 10, "rl" * 5000, "r" * 10000, "x" * 59, rim_anew(row(15)), rim_anew(row(40))]:
            self.assertGreater(len(text), 58)
            self.check_refused(text)

    def test_just_fifty_eight_signs(self):
        for cells in [row(14), BENT, ZIGZAG, BRANCHED]:
            self.assertEqual(len(rim(Coal(cells))), 58)
            self.assertEqual(coal_of(rim(Coal(cells))).many(), 14)

    def test_a_way_that_does_not_come_back(self):
        for word in ["r", "l", "rl", "rr", "rrrrr", "rrrrrrr", "rrrrrrrrr", "lrlrlr", "rrrrrrrl" + "rl" * 5,
                     "rrrrrrlr", "lrrrrrlrrr", "rrrrrrrrrrll", "lrrrlrrrrlrr", "lrlrlrrrrlrlrlrrrl", "rl" * 29]:
            self.check_refused(word)

    def test_six_more_to_the_right_are_not_enough(self):
        for word in ["rrrrrrrl", "lrrrrrrr", "rrrrlrrr", "rrrrrrrrll", "lrrrrrlrrr"]:
            self.assertEqual(word.count("r") - word.count("l"), 6)
            self.check_refused(word)

    def test_a_way_that_comes_back_in_another_direction(self):
        self.check_refused("rrrrrl")
        for cells in [row(2), row(5), FLOWER, GOBLET, BENT]:
            word = rim(Coal(cells))
            for one in begun(word):
                self.check_refused(one[:-1] + ("l" if one[-1] == "r" else "r"))

    def test_a_way_that_comes_to_a_point_twice(self):
        self.check_refused("rrrrrr" * 2)
        self.check_refused("rrrrrr" * 9)
        self.check_refused("lrrrrlrrrr" * 2)
        # These come back, in the first direction, with just six turns more to the right.
        for word in ["rllrrrrrllrrrr", "lrrrrrllrrrrrl", "lrrrrrlllrrrrrlr", "rrrrrrlrrrllllrrrr", "rrrrrllllrrrrrrllr",
                     "rlrrrlrrllrrrrrlllrr", "rrlrrrrrrrrrrlrllllllr", "rllllrlrrrrrrrlrllrrrrrlrlrrll"]:
            for one in begun(word):
                self.check_refused(one)

    def test_a_way_that_crosses_and_comes_round_to_neither_hand(self):
        for word in ["rrrrrrllllll", "rrrrrllllllr", "lrrrrrrlllll"]:
            self.check_refused(word)

    def test_a_way_that_goes_round_to_the_left(self):
        self.check_refused("llllll")
        for cells in lists_to_go_round():
            word = rim(Coal(cells)).replace("r", "x").replace("l", "r").replace("x", "l")
            self.check_refused(word)
            self.check_refused(word[::-1])

    def test_too_many_cells(self):
        hexagon = sorted({other for cell in FLOWER for other in beside(cell)})
        lists = [hexagon, hexagon[:15], [(a, b) for a in range(5) for b in range(3)],
                 [(a, b) for a in range(4) for b in range(4)], [(a, b) for a in range(8) for b in range(7)],
                 row(8) + row(7, 0, 1), row(13) + row(2, 0, 1), row(12) + row(3, 4, 1)]
        for cells in lists:
            self.assertGreater(len(cells), 14)
            self.assertLessEqual(len(rim_anew(cells)), 58)
            for word in begun(rim_anew(cells)):
                self.check_refused(word)

    def test_fourteen_cells_with_a_short_rim(self):
        hexagon = sorted({other for cell in FLOWER for other in beside(cell)})
        for cells in [hexagon[:14], [(a, b) for a in range(5) for b in range(3)][:14], BLOCK]:
            self.assertEqual(len(cells), 14)
            self.check_begun(cells, range(58))

    def test_what_is_told_is_the_asker_s_own(self):
        one = coal_of("lrrrrlrrrr")
        one.cells().clear()
        self.assertEqual(coal_of("lrrrrlrrrr").cells(), [(0, 0), (1, 0)])
        self.assertEqual(one.cells(), [(0, 0), (1, 0)])
        check_own(self, least_word, "rrlrl")


if __name__ == "__main__":
    unittest.main()
