"""Squares, their lists and counts, heights and triangles, held against plain reckonings."""

import unittest

from signsquared.heights import heights, hills, hollows, lowered, raised, rise
from signsquared.squarelists import count_first, count_squares, square_number, square_with, squares
from signsquared.squares import (
    first_column, last_square, minuses, mirrored, order_square, overtakings, square_order, tipped, unit_square, upended,
)
from signsquared.triangles import triangle
from tests.plainly import (
    ALL_SMALL, SMALL, Q, X, order_to_square, plain_below, plain_heights, plain_orders, points_leaning, random_squares,
)

BIG = [square for sides in (5, 6, 9, 12) for square in random_squares(sides, 4)]
MANY = ALL_SMALL + BIG


def product(numbers):
    result = 1
    for number in numbers:
        result *= number
    return result


def factorial(number):
    return product(range(1, number + 1))


class Squares(unittest.TestCase):
    def test_orders(self):
        for sides in (1, 2, 3, 4):
            for order in plain_orders(sides):
                self.assertEqual(order_square(order), order_to_square(order))
                self.assertEqual(square_order(order_square(order)), order)
        for square in MANY:
            if any(-1 in row for row in square):
                self.assertIsNone(square_order(square))
            else:
                self.assertEqual(order_square(square_order(square)), square)

    def test_unit_and_last(self):
        for sides in range(1, 13):
            self.assertEqual(unit_square(sides), order_to_square(range(sides)))
            self.assertEqual(last_square(sides), order_to_square(range(sides)[::-1]))

    def test_minuses_and_first_column(self):
        for square in MANY:
            sides = range(len(square))
            self.assertEqual(minuses(square), [(r, c) for r in sides for c in sides if square[r][c] == -1])
            self.assertEqual(square[0][first_column(square)], 1)

    def test_overtakings(self):
        for square in MANY:
            sides = range(len(square))
            told = sum(
                square[r][c] * square[below][left]
                for r in sides for c in sides for below in range(r + 1, len(square)) for left in range(c)
            )
            self.assertEqual(overtakings(square), told)

    def test_overtakings_of_mirrored(self):
        for square in MANY:
            both = overtakings(square) + overtakings(mirrored(square))
            self.assertEqual(both, len(square) * (len(square) - 1) // 2 + len(minuses(square)))
            self.assertGreaterEqual(overtakings(square), len(minuses(square)))

    def test_moves(self):
        for square in MANY:
            sides = range(len(square))
            last = len(square) - 1
            self.assertEqual(tipped(square), tuple(tuple(square[c][r] for c in sides) for r in sides))
            self.assertEqual(mirrored(square), tuple(tuple(square[r][last - c] for c in sides) for r in sides))
            self.assertEqual(upended(square), tuple(tuple(square[last - r][c] for c in sides) for r in sides))


class Lists(unittest.TestCase):
    def test_all_squares(self):
        for sides in (1, 2, 3, 4):
            self.assertEqual(squares(sides), SMALL[sides])
        self.assertEqual(len(squares(5)), 429)
        self.assertEqual(squares(5), sorted(set(squares(5))))

    def test_numbers(self):
        for sides in (1, 2, 3, 4, 5):
            for number, square in enumerate(squares(sides)):
                self.assertEqual(square_number(square), number)
                self.assertEqual(square_with(sides, number), square)

    def test_great_numbers(self):
        for sides in (6, 7, 8, 9):
            self.assertEqual(square_with(sides, 0), last_square(sides))
            self.assertEqual(square_with(sides, count_squares(sides) - 1), unit_square(sides))
            for square in random_squares(sides, 3):
                self.assertEqual(square_with(sides, square_number(square)), square)
            for number in range(0, count_squares(sides), count_squares(sides) // 5):
                self.assertEqual(square_number(square_with(sides, number)), number)

    def test_numbers_are_ascending(self):
        some = random_squares(9, 12)
        self.assertEqual(sorted(some), sorted(some, key=square_number))

    def test_counts(self):
        known = [1, 2, 7, 42, 429, 7436, 218348, 10850216, 911835460, 129534272700, 31095744852375, 12611311859677500]
        self.assertEqual([count_squares(sides) for sides in range(1, 13)], known)
        for sides in (13, 37, 60):
            above = product(factorial(3 * k + 1) for k in range(sides))
            self.assertEqual(count_squares(sides) * product(factorial(sides + k) for k in range(sides)), above)

    def test_counts_by_first_column(self):
        for sides in (1, 2, 3, 4):
            told = [len([some for some in SMALL[sides] if some[0][column] == 1]) for column in range(sides)]
            self.assertEqual([count_first(sides, column) for column in range(sides)], told)
        for sides in (5, 8, 12, 33, 60):
            told = [count_first(sides, column) for column in range(sides)]
            self.assertEqual(sum(told), count_squares(sides))
            self.assertEqual(told, told[::-1])
            self.assertEqual(told[0], count_squares(sides - 1))

    def test_counts_by_first_column_of_five(self):
        told = [len([some for some in squares(5) if some[0][column] == 1]) for column in range(5)]
        self.assertEqual([count_first(5, column) for column in range(5)], told)


class Heights(unittest.TestCase):
    def test_heights(self):
        for square in MANY:
            self.assertEqual(heights(square), plain_heights(square))

    def test_hollows_and_hills(self):
        for square in MANY:
            self.assertEqual(hollows(square), points_leaning(square, 1))
            self.assertEqual(hills(square), points_leaning(square, -1))

    def test_raising_and_lowering(self):
        for square in MANY:
            for point in hollows(square):
                upper = raised(square, point)
                told = [list(row) for row in heights(square)]
                told[point[0]][point[1]] += 2
                self.assertEqual(plain_heights(upper), tuple(tuple(row) for row in told))
                self.assertIn(point, hills(upper))
                self.assertEqual(lowered(upper, point), square)
                self.assertEqual(rise(upper), rise(square) + 1)
            for point in hills(square):
                self.assertEqual(raised(lowered(square, point), point), square)

    def test_rise(self):
        for square in MANY:
            unit, sides = heights(unit_square(len(square))), range(len(square) + 1)
            more = sum(heights(square)[i][j] - unit[i][j] for i in sides for j in sides)
            self.assertEqual(2 * rise(square), more)
        for sides in range(1, 13):
            self.assertEqual(rise(unit_square(sides)), 0)
            self.assertEqual(rise(last_square(sides)), (sides - 1) * sides * (sides + 1) // 6)

    def test_the_height_mirrored(self):
        for square in ALL_SMALL:
            sides = len(square)
            for i in range(sides + 1):
                for j in range(sides + 1):
                    self.assertEqual(heights(mirrored(square))[i][j], sides - heights(square)[i][sides - j])

    def test_below_is_turned_round(self):
        for one in SMALL[3]:
            for other in SMALL[3]:
                self.assertEqual(plain_below(one, other), plain_below(mirrored(other), mirrored(one)))


class Triangles(unittest.TestCase):
    def test_triangles(self):
        for square in MANY:
            sides = range(len(square))
            told = tuple(
                tuple(c for c in sides if sum(square[above][c] for above in range(r + 1)) == 1) for r in sides
            )
            self.assertEqual(triangle(square), told)

    def test_all_triangles_differ(self):
        for sides in SMALL:
            self.assertEqual(len({triangle(square) for square in SMALL[sides]}), len(SMALL[sides]))

    def test_one_and_twelve_sides(self):
        self.assertEqual(triangle(((1,),)), ((0,),))
        self.assertEqual(triangle(unit_square(12)), tuple(tuple(range(many)) for many in range(1, 13)))
        self.assertEqual((triangle(X)[1], triangle(Q)[1]), ((0, 2), (0, 3)))


if __name__ == "__main__":
    unittest.main()
