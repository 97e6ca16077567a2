"""Tables and determinants [20], what they count [21, 3], and what [2] says of the lists."""

import itertools
import unittest

from helper import (
    BENT, BIG, BLOCK, BRANCHED, FLOWER, GOBLETS, TRIANGLE, ZIGZAG, big_coals, check_own, check_refused, coals_to_pair,
    moved, pairings_anew, row, shapes,
)
from sootring.cells import holes
from sootring.coal import Coal
from sootring.errors import NoTable
from sootring.points import is_light
from sootring.tables import determinant, table, whole_table


def colours(coal):
    """The numbers of the light points, and of the dark ones."""
    points = coal.points()
    light = [k for k in range(len(points)) if is_light(points[k])]
    return light, [k for k in range(len(points)) if k not in light]


class Tables(unittest.TestCase):

    def test_one_cell(self):
        coal = Coal([(0, 0)])
        self.assertEqual(table(coal), [[1, 1, 0], [1, 0, 1], [0, 1, 1]])
        self.assertEqual(whole_table(coal), [
            [0, 1, 0, 1, 0, 0],
            [1, 0, 1, 0, 0, 0],
            [0, 1, 0, 0, 0, 1],
            [1, 0, 0, 0, 1, 0],
            [0, 0, 0, 1, 0, 1],
            [0, 0, 1, 0, 1, 0],
        ])

    def test_three_cells_round_a_point(self):
        # The point in the middle is of the colour that has one point more.
        light, dark = Coal([(0, 0), (1, 0), (0, 1)]), Coal([(0, 0), (0, 1), (-1, 1)])
        self.assertEqual((len(table(light)), len(table(light)[0])), (7, 6))
        self.assertEqual((len(table(dark)), len(table(dark)[0])), (6, 7))

    def test_rows_of_light_and_columns_of_dark_points(self):
        unlike = 0
        for coal in coals_to_pair():
            light, dark = colours(coal)
            unlike += len(light) != len(dark)
            ties = coal.ties()
            due = [[int(tuple(sorted([i, j])) in ties) for j in dark] for i in light]
            self.assertEqual(table(coal), due)
        self.assertGreater(unlike, 10)

    def test_all_points_by_all_points(self):
        for coal in coals_to_pair():
            many = range(len(coal.points()))
            ties = coal.ties()
            due = [[int((i, j) in ties or (j, i) in ties) for j in many] for i in many]
            self.assertEqual(whole_table(coal), due)

    def test_kinds(self):
        for ask in [table, whole_table]:
            told = ask(Coal(FLOWER))
            self.assertIs(type(told), list)
            self.assertTrue(all(type(one) is list for one in told))
            self.assertTrue(all(type(number) is int for one in told for number in one))

    def test_far_off(self):
        self.assertEqual(table(Coal(moved(BENT, BIG, -BIG))), table(Coal(BENT)))

    def test_lists_are_the_asker_s_own(self):
        for cells in [row(1), FLOWER, TRIANGLE]:
            check_own(self, table, Coal(cells))
            check_own(self, whole_table, Coal(cells))

    def test_no_row_stands_twice(self):
        for ask in [table, whole_table]:
            told = ask(Coal(FLOWER))
            kept = [list(one) for one in told[1:]]
            told[0].clear()
            self.assertEqual(told[1:], kept)

    def test_names_of_arguments(self):
        self.assertEqual(len(table(coal=Coal([(0, 0)]))), 3)
        self.assertEqual(len(whole_table(coal=Coal([(0, 0)]))), 6)
        self.assertEqual(determinant(rows=[[7]]), 7)


def sign_of(places):
    crossed = sum(one > other for one, other in itertools.combinations(places, 2))
    return -1 if crossed % 2 else 1


def determinant_anew(rows):
    """The determinant as [20] tells it, over all ways to take one number out of each row and column."""
    found = 0
    for places in itertools.permutations(range(len(rows))):
        product = sign_of(places)
        for one, place in zip(rows, places):
            product *= one[place]
        found += product
    return found


def some_numbers(many, most, seed):
    """So many whole numbers of either sign, always the same ones."""
    found = []
    state = seed * 104729 + 1
    for k in range(many):
        number = 0
        while number < most:
            state = (state * 1103515245 + 12345) % 2 ** 31
            number = number * 32768 + state // 65536
        found.append((number % most) * (-1 if state // 4096 % 2 else 1))
    return found


def square(size, most, seed):
    numbers = some_numbers(size * size, most, seed)
    return [numbers[k * size:(k + 1) * size] for k in range(size)]


def product(one, other):
    return [[sum(a * b for a, b in zip(line, column)) for column in zip(*other)] for line in one]


def by_corners(size, most, seed):
    """A table that is a lower corner times an upper one, and its determinant, the product of their diagonals."""
    numbers = square(size, most, seed)
    lower = [[numbers[k][n] if n < k else int(n == k) for n in range(size)] for k in range(size)]
    upper = [[numbers[k][n] if n >= k else 0 for n in range(size)] for k in range(size)]
    due = 1
    for k in range(size):
        due *= numbers[k][k]
    return product(lower, upper), due


class Determinants(unittest.TestCase):

    def test_without_rows(self):
        self.assertEqual(determinant([]), 1)

    def test_one_row(self):
        for number in [0, 1, -1, 7, -12, BIG, -BIG]:
            self.assertEqual(determinant([[number]]), number)

    def test_two_rows(self):
        self.assertEqual(determinant([[0, 1], [1, 0]]), -1)
        self.assertEqual(determinant([[1, 0], [0, 1]]), 1)
        self.assertEqual(determinant([[2, 3], [5, 7]]), -1)
        self.assertEqual(determinant([[0, 0], [0, 0]]), 0)
        self.assertEqual(determinant([[0, 2], [0, 5]]), 0)
        self.assertEqual(determinant([[0, -2], [3, 5]]), 6)
        self.assertEqual(determinant([[BIG, -BIG], [BIG, BIG]]), 2 * BIG * BIG)
        for a, b, c, d in itertools.product(range(-2, 3), repeat=4):
            self.assertEqual(determinant([[a, b], [c, d]]), a * d - b * c)

    def test_every_table_of_three_noughts_and_ones(self):
        for numbers in itertools.product([0, 1], repeat=9):
            rows = [list(numbers[:3]), list(numbers[3:6]), list(numbers[6:])]
            self.assertEqual(determinant(rows), determinant_anew(rows))

    def test_against_the_sum_over_all_ways(self):
        for size in range(1, 7):
            for seed in range(12):
                for most in [2, 3, 10, 10 ** 6, 10 ** 40, 10 ** 60]:
                    rows = square(size, most, seed)
                    self.assertEqual(determinant(rows), determinant_anew(rows))

    def test_one_number_in_each_row_and_column(self):
        for size in range(1, 6):
            for places in itertools.permutations(range(size)):
                rows = [[int(k == place) * 3 for k in range(size)] for place in places]
                self.assertEqual(determinant(rows), sign_of(places) * 3 ** size)

    def test_noughts_at_the_first_places(self):
        rows = [[0, 0, 0, 2], [0, 0, 3, 1], [0, 5, -1, 4], [7, 1, 1, 1]]
        self.assertEqual(determinant(rows), 210)
        self.assertEqual(determinant(rows[::-1]), 210)
        self.assertEqual(determinant([[0, 2, 3], [0, 5, 7], [11, 1, 1]]), 11 * (14 - 15))
        self.assertEqual(determinant([[0, 2, 3], [4, 1, 1], [0, 5, 7]]), -4 * (14 - 15))
        self.assertEqual(determinant([[0, 2, 3], [0, 1, 1], [0, 5, 7]]), 0)
        # In the middle of it, too: the second row begins with nought once the first column is done.
        self.assertEqual(determinant([[1, 2, 3], [2, 4, 7], [3, 7, 1]]), -1)

    def test_rows_that_hang_on_one_another(self):
        for size in range(2, 9):
            for most in [5, 10 ** 40]:
                rows = square(size, most, size)
                rows[-1] = [sum(column) for column in zip(*rows[:-1])]
                self.assertEqual(determinant(rows), 0)
                rows = square(size, most, size)
                rows[0] = [-3 * number for number in rows[-1]]
                self.assertEqual(determinant(rows), 0)
                rows[0] = [0] * size
                self.assertEqual(determinant(rows), 0)

    def test_numbers_of_forty_figures(self):
        for size, seed in [(3, 1), (8, 2), (15, 3), (24, 4)]:
            rows, due = by_corners(size, 10 ** 20, seed)
            self.assertEqual(determinant(rows), due)
            self.assertGreater(max(abs(number) for one in rows for number in one), 10 ** 38)
            rows[0], rows[-1] = rows[-1], rows[0]
            self.assertEqual(determinant(rows), -due)

    def test_sixty_rows(self):
        rows, due = by_corners(60, 10 ** 6, 5)
        self.assertEqual(determinant(rows), due)
        self.assertEqual(determinant([[int(k + n == 59) for k in range(60)] for n in range(60)]), 1)
        self.assertEqual(determinant([[int(k == n) * -2 for k in range(60)] for n in range(60)]), 2 ** 60)

    def test_exchanged_rows_and_columns(self):
        rows = square(5, 100, 9)
        due = determinant_anew(rows)
        self.assertEqual(determinant([list(column) for column in zip(*rows)]), due)
        for one, other in itertools.combinations(range(5), 2):
            exchanged = list(rows)
            exchanged[one], exchanged[other] = exchanged[other], exchanged[one]
            self.assertEqual(determinant(exchanged), -due)

    def test_rows_too_short_too_long_or_none_of_their_own(self):
        for rows in [[[]], [[], []], [[1, 2]], [[1], [2]], [[1, 2], [3]], [[1], [2, 3]], [[1, 2], [3, 4, 5]],
                     [[1, 2, 3], [4, 5, 6]], [[1, 2], [3, 4], [5, 6]], [[0, 0], []], [[], [0, 0]],
                     [[0, 1, 2], [3, 4, 5], [6, 7]], [[1, 2, 3], [4, 5], [6, 7, 8]], [[0] * 60] * 59, [[0] * 59] * 60,
                     [[0, 0], [0]], [[0], [0]], [[]] * 5, [[1, 0, 0], [0, 1, 0], [0, 0, 1], []]]:
            check_refused(self, NoTable, determinant, rows)

    def test_table_of_a_coal_with_unlike_numbers_of_points(self):
        for cells in [TRIANGLE, [(0, 0), (1, 0), (0, 1)], [(0, 0), (0, 1), (-1, 1)]]:
            check_refused(self, NoTable, determinant, table(Coal(cells)))

    def test_what_is_handed_in_stays(self):
        for rows in [[], [[3]], [[0, 1], [1, 0]], square(6, 10, 3), [[0, 0, 1], [0, 1, 0], [1, 0, 0]]]:
            check_own(self, determinant, rows)


class WhatTheyCount(unittest.TestCase):

    def check(self, coal):
        light, dark = colours(coal)
        many = len(pairings_anew(coal))
        if len(light) == len(dark):
            self.assertIn(determinant(table(coal)), (many, -many))
            self.assertEqual(determinant(whole_table(coal)), many * many * (-1) ** len(light))
        else:
            self.assertEqual(many, 0)
            self.assertEqual(determinant(whole_table(coal)), 0)

    def test_one_cell(self):
        self.assertEqual(determinant(table(Coal([(0, 0)]))), -2)
        self.assertEqual(determinant(whole_table(Coal([(0, 0)]))), -4)

    def test_coals_of_all_sizes(self):
        for coal in coals_to_pair():
            self.check(coal)

    def test_every_small_coal(self):
        for many, lists in shapes(5):
            for cells in lists:
                self.check(Coal(cells))

    def test_every_fourth_coal_of_six_cells(self):
        for many, lists in shapes(6):
            for cells in lists[::4] if many == 6 else []:
                if holes(cells) == []:
                    self.check(Coal(cells))

    def test_fourteen_cells(self):
        known = [(row(14), 15), (BLOCK, 36), (ZIGZAG, 987), (BRANCHED, 1310), (GOBLETS[3], 0)]
        for cells, many in known:
            self.assertEqual(abs(determinant(table(Coal(cells)))), many)
            self.assertEqual(abs(determinant(whole_table(Coal(cells)))), many * many)
        for cells in big_coals():
            self.check(Coal(cells))


if __name__ == "__main__":
    unittest.main()
