"""Layings counted, tables condensed, and spreads of minuses, overtakings and ends, held against plain reckonings."""

import itertools
import math
import random
import unittest
from fractions import Fraction

from signsquared.condensing import condensed, count_flat, count_floor, rise_counts, share_sum
from signsquared.signspreads import (
    count_ends, count_one_minus, ends_table, first_minus_table, minus_spread, most_minuses, overtaking_spread, spread_table,
)
from signsquared.squarelists import count_first, count_squares, list_squares
from tests.plainfloors import plain_couples, plain_layings, plain_rise
from tests.plainly import SMALL

SQUARES = {**SMALL, 5: list_squares(5), 6: list_squares(6)}


def minus_count(square):
    return sum(row.count(-1) for row in square)


def overtaking_count(square):
    signs = [(i, j, sign) for i, row in enumerate(square) for j, sign in enumerate(row) if sign]
    return sum(one * other for i, j, one in signs for r, c, other in signs if r > i and c < j)


def halves(sides):
    return sides * (sides - 1) // 2


def plain_condensed(table, share):
    """A table condensed, in fractions, table by table."""
    ahead = [[Fraction(1)] * (len(table) + 1) for _ in range(len(table) + 1)]
    newest = [[Fraction(entry) for entry in row] for row in table]
    while len(newest) > 1:
        behind = [
            [
                (newest[i][j] * newest[i + 1][j + 1] + share * newest[i][j + 1] * newest[i + 1][j]) / ahead[i + 1][j + 1]
                for j in range(len(newest) - 1)
            ]
            for i in range(len(newest) - 1)
        ]
        ahead, newest = newest, behind
    return newest[0][0].numerator, newest[0][0].denominator


def sum_over_squares(table, share):
    """A table condensed, as the guarantee tells it: a sum over all squares."""
    total = Fraction(0)
    for square in SQUARES[len(table)]:
        term = Fraction(share) ** overtaking_count(square) * Fraction(share + 1, share) ** minus_count(square)
        for row, line in zip(square, table):
            for sign, entry in zip(row, line):
                term *= Fraction(entry) ** sign
        total += term
    return total.numerator, total.denominator


def random_table(chance, sides):
    return tuple(tuple(chance.randint(1, 99) for _ in range(sides)) for _ in range(sides))


class Layings(unittest.TestCase):
    def test_how_many(self):
        for size in (1, 2, 3):
            self.assertEqual(count_floor(size), len(plain_layings(size)))
        for size in range(1, 61):
            self.assertEqual(count_floor(size), 2 ** (size * (size + 1) // 2))

    def test_flat(self):
        for size in (1, 2, 3):
            flat = [sum(a[0] == b[0] for a, b in laying) for laying in plain_layings(size)]
            self.assertEqual([count_flat(size, many) for many in range(40)], [flat.count(many) for many in range(40)])
        for size in (4, 11, 60):
            most = size * (size + 1)
            told = [count_flat(size, many) for many in range(most + 5)]
            self.assertEqual(sum(told), count_floor(size))
            self.assertEqual(told[most], 1)
            self.assertEqual(told[::2][:most // 2 + 1], [math.comb(most // 2, some) for some in range(most // 2 + 1)])
            self.assertEqual(set(told[1::2]) | set(told[most + 1:]), {0})
        self.assertEqual([count_flat(60, many) for many in (0, 1, 10 ** 4, 10 ** 4 - 1)], [1, 0, 0, 0])

    def test_rises(self):
        for size in (1, 2, 3):
            rises = [plain_rise(small) + plain_rise(great) for small, great in plain_couples(size)]
            self.assertEqual(rise_counts(size), tuple(rises.count(many) for many in range(max(rises) + 1)))
        for size in range(1, 12):
            told = rise_counts(size)
            self.assertEqual(sum(told), count_floor(size))
            self.assertEqual(told, told[::-1])
            self.assertEqual(len(told) - 1, sum((2 * k + 1) * (size - k) for k in range(size)))
            self.assertEqual(sum(many * 3 ** at for at, many in enumerate(told)), math.prod((1 + 3 ** (2 * k + 1)) ** (size - k) for k in range(size)))


class Condensed(unittest.TestCase):
    def test_as_a_sum_over_squares(self):
        chance = random.Random(1)
        for sides in (1, 2, 3, 4):
            for share in (1, 2, 7, 99):
                for table in (random_table(chance, sides), ((99,) * sides,) * sides, ((1,) * sides,) * sides):
                    self.assertEqual(condensed(table, share), sum_over_squares(table, share))

    def test_table_by_table(self):
        chance = random.Random(2)
        for sides in range(1, 9):
            for share in (1, 3, 99):
                table = random_table(chance, sides)
                self.assertEqual(condensed(table, share), plain_condensed(table, share))

    def test_ones(self):
        for sides in range(1, 13):
            for share in (1, 2, 99):
                told = (share + 1) ** halves(sides)
                self.assertEqual(share_sum(sides, share), told)
                if sides <= 8:
                    self.assertEqual(condensed(((1,) * sides,) * sides, share), (told, 1))


class Spreads(unittest.TestCase):
    def test_minus_spread(self):
        for sides, some in SQUARES.items():
            many = [minus_count(square) for square in some]
            self.assertEqual(minus_spread(sides), tuple(many.count(at) for at in range(max(many) + 1)))

    def test_overtaking_spread(self):
        for sides, some in SQUARES.items():
            many = [overtaking_count(square) for square in some]
            self.assertEqual(overtaking_spread(sides), tuple(many.count(at) for at in range(max(many) + 1)))

    def test_spread_table(self):
        for sides, some in SQUARES.items():
            both = [(minus_count(square), overtaking_count(square)) for square in some]
            rows, columns = (max(numbers) + 1 for numbers in zip(*both))
            told = tuple(tuple(both.count((row, column)) for column in range(columns)) for row in range(rows))
            self.assertEqual(spread_table(sides), told)

    def test_first_minus_table(self):
        for sides, some in SQUARES.items():
            both = [(square[0].index(1), minus_count(square)) for square in some]
            most = max(many for _, many in both)
            told = tuple(tuple(both.count((column, many)) for many in range(most + 1)) for column in range(sides))
            self.assertEqual(first_minus_table(sides), told)

    def test_ends(self):
        for sides, some in SQUARES.items():
            both = [(square[0].index(1), square[-1].index(1)) for square in some]
            told = tuple(tuple(both.count((column, last)) for last in range(sides)) for column in range(sides))
            self.assertEqual(ends_table(sides), told)
            for column, last in itertools.product(range(sides), repeat=2):
                self.assertEqual(count_ends(sides, column, last), told[column][last])

    def test_ends_of_many_sides(self):
        for sides in (7, 8):
            table = ends_table(sides)
            self.assertEqual([sum(row) for row in table], [count_first(sides, column) for column in range(sides)])
            self.assertEqual(table, tuple(zip(*table)))
            self.assertEqual(table, tuple(row[::-1] for row in table[::-1]))
            self.assertEqual([row[at] for at, row in enumerate(table)][0], 0)
            self.assertEqual(table[0][sides - 1], count_squares(sides - 2))
            self.assertEqual(count_ends(sides, 2, 5), table[2][5])

    def test_sums_with_a_power_for_each_minus(self):
        for sides in range(1, 8):
            spread = minus_spread(sides)
            self.assertEqual(sum(spread), count_squares(sides))
            self.assertEqual(spread[0], math.factorial(sides))
            self.assertEqual(sum(many * 2 ** at for at, many in enumerate(spread)), 2 ** halves(sides))
            over = overtaking_spread(sides)
            self.assertEqual(sum(over), count_squares(sides))
            self.assertEqual(len(over) - 1, halves(sides))

    def test_sums_of_the_tables(self):
        for sides in range(1, 7):
            table = spread_table(sides)
            self.assertEqual([sum(row) for row in table], list(minus_spread(sides)))
            self.assertEqual([sum(column) for column in zip(*table)], list(overtaking_spread(sides)))
            for x in (1, 2, -3, 5):
                total = sum(
                    many * Fraction(x) ** (over - minus) * (x + 1) ** minus
                    for minus, row in enumerate(table) for over, many in enumerate(row)
                )
                self.assertEqual(total, (x + 1) ** halves(sides))
            first = first_minus_table(sides)
            self.assertEqual([sum(column) for column in zip(*first)], list(minus_spread(sides)))
            for column, row in enumerate(first):
                told = 2 ** ((sides - 1) * (sides - 2) // 2) * math.comb(sides - 1, column)
                self.assertEqual(sum(many * 2 ** at for at, many in enumerate(row)), told)


class Minuses(unittest.TestCase):
    def test_most(self):
        for sides, some in SQUARES.items():
            self.assertEqual(most_minuses(sides), max(minus_count(square) for square in some))
        self.assertEqual(most_minuses(7), len(minus_spread(7)) - 1)
        self.assertEqual(most_minuses(10 ** 30), (10 ** 30 - 1) ** 2 // 4)
        self.assertEqual(most_minuses(10 ** 30 - 1), (10 ** 30 // 2 - 1) ** 2)

    def test_one(self):
        for sides in range(1, 8):
            self.assertEqual(count_one_minus(sides), (minus_spread(sides) + (0,))[1])
        for sides in (8, 30, 200):
            told = Fraction(math.factorial(sides) * sides * (sides - 1) * (sides - 2), 36)
            self.assertEqual(count_one_minus(sides), told)


if __name__ == "__main__":
    unittest.main()
