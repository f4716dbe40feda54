"""Ice, sorts, ice roads, ice sums and line sums, held against plain reckonings."""

import unittest

from signsquared.heights import hills, hollows, lowered, raised
from signsquared.helpers import determinant
from signsquared.ice import cell_sorts, ice_of, ice_points, ice_turned, sort_counts, square_by_sorts
from signsquared.icelines import line_quotient, line_sum, line_weight
from signsquared.iceroads import count_touching, ice_roads, touchings
from signsquared.icesums import ice_counts, ice_sum, ice_terms
from signsquared.squarelists import count_squares, list_squares, squares
from signsquared.squares import last_square, minuses, overtakings, unit_square
from tests.plainly import (
    ALL_SMALL, SMALL, X, determinant_by_orders, plain_ice, plain_roads, plain_sort, plain_sorts, random_squares,
)

MANY = ALL_SMALL + [square for sides in (5, 6, 9, 12) for square in random_squares(sides, 4)]
SORTS = ("none", "both", "across", "down", "one", "minus")


def cells(square):
    return [(row, column) for row in range(len(square)) for column in range(len(square))]


def worth(square, told):
    """The product of what is told of the sort, the row and the column of each cell."""
    result = 1
    for row, column in cells(square):
        result *= told(plain_sort(square, row, column), row, column)
    return result


def plain_worth(square, weights):
    a, b, c = weights
    table = {"none": a, "both": a, "across": b, "down": b, "one": c, "minus": c}
    return worth(square, lambda sort, row, column: table[sort])


def plain_line(square, rows, columns, step):
    def told(sort, row, column):
        apart = rows[row] - columns[column]
        return {"none": apart + step, "both": apart + step, "across": apart, "down": apart}.get(sort, step)
    return worth(square, told)


def plain_quotient(rows, columns, step):
    sides = range(len(rows))

    def entry(i, j):
        result = 1
        for k in sides:
            if k != j:
                result *= (rows[i] - columns[k]) * (rows[i] - columns[k] + step)
        return result

    above = step ** len(rows) * determinant_by_orders([[entry(i, j) for j in sides] for i in sides])
    below = 1
    for i in sides:
        for j in range(i + 1, len(rows)):
            below *= (rows[i] - rows[j]) * (columns[j] - columns[i])
    assert above % below == 0
    return above // below


class Ice(unittest.TestCase):
    def test_ice(self):
        for square in MANY:
            self.assertEqual(ice_of(square), plain_ice(square))

    def test_sorts(self):
        for square in MANY:
            self.assertEqual(cell_sorts(square), plain_sorts(square))
            self.assertEqual(square_by_sorts(cell_sorts(square)), square)
            told = [sort for row in plain_sorts(square) for sort in row]
            self.assertEqual(sort_counts(square), tuple(told.count(sort) for sort in SORTS))

    def test_how_many_of_each_sort(self):
        for square in MANY:
            none, both, across, down, one, minus = sort_counts(square)
            self.assertEqual((none, across, one), (both, down, minus + len(square)))
            self.assertEqual(both, overtakings(square) - len(minuses(square)))

    def test_points(self):
        for square in MANY:
            lying, standing = plain_ice(square)
            told = []
            for i in range(1, len(square)):
                for j in range(1, len(square)):
                    upper, lower, left, right = lying[i - 1][j], lying[i][j], standing[i][j - 1], standing[i][j]
                    if upper + lower == 1 and left + right == 1 and (upper + left == 2 or lower + right == 2):
                        told.append((i, j))
            self.assertEqual(ice_points((lying, standing)), told)
            self.assertEqual(told, sorted(hollows(square) + hills(square)))

    def test_turning(self):
        for square in MANY:
            ice = ice_of(square)
            for point in ice_points(ice):
                other = raised(square, point) if point in hollows(square) else lowered(square, point)
                self.assertEqual(ice_turned(ice, point), plain_ice(other))
                self.assertEqual(ice_turned(ice_turned(ice, point), point), ice)


class Roads(unittest.TestCase):
    def test_roads(self):
        for square in MANY:
            self.assertEqual(ice_roads(square), plain_roads(square))

    def test_roads_share_no_edge_and_end_in_their_rows(self):
        for square in MANY:
            edges = []
            for column, road in enumerate(ice_roads(square)):
                self.assertEqual((road[0], road[-1]), ((len(square) - 1, column), (column, len(square) - 1)))
                edges += list(zip(road, road[1:]))
            self.assertEqual(len(edges), len(set(edges)))

    def test_touchings(self):
        for square in MANY:
            told = [cell for road in ice_roads(square) for cell in road]
            twice = sorted({cell for cell in told if told.count(cell) == 2})
            self.assertEqual(touchings(square), twice)
            self.assertLessEqual(max(told.count(cell) for cell in told), 2)
            self.assertEqual(twice, [cell for cell in cells(square) if plain_sort(square, *cell) == "both"])

    def test_counts(self):
        for sides in (1, 2, 3, 4):
            told = [len(touchings(square)) for square in SMALL[sides]]
            for many in range(9):
                self.assertEqual(count_touching(sides, many), told.count(many))
        for sides in (5, 6):
            told = [len(touchings(square)) for square in list_squares(sides)]
            for many in range(18):
                self.assertEqual(count_touching(sides, many), told.count(many))
            self.assertEqual(count_touching(sides, 10 ** 119), 0)


class Sums(unittest.TestCase):
    def test_counts(self):
        for square in MANY:
            none, both, across, down, one, minus = sort_counts(square)
            self.assertEqual(ice_counts(square), (none + both, across + down, one + minus))

    def test_terms(self):
        for sides in (1, 2, 3, 4, 5):
            told = [ice_counts(square) for square in squares(sides)]
            self.assertEqual(ice_terms(sides), sorted({(some, told.count(some)) for some in told}))
        self.assertEqual(ice_terms(1), [((0, 0, 1), 1)])

    def test_sums(self):
        for sides in (1, 2, 3, 4):
            for weights in ((1, 1, 1), (2, -3, 5), (0, 1, 1), (1, 0, 1), (1, 1, 0), (0, 0, 0), (1000, -1000, 1000)):
                told = sum(plain_worth(square, weights) for square in SMALL[sides])
                self.assertEqual(ice_sum(sides, weights), told)
                self.assertEqual(ice_sum(sides, (weights[1], weights[0], weights[2])), told)

    def test_equal_weights_count_squares(self):
        for sides in (1, 2, 3, 4, 5, 6):
            self.assertEqual(ice_sum(sides, (1, 1, 1)), count_squares(sides))
            self.assertEqual(ice_sum(sides, (3, 3, 3)), count_squares(sides) * 3 ** (sides * sides))

    def test_weights_of_a_right_angle(self):
        for sides in (1, 2, 3, 4, 5, 6):
            for a, b, c in ((3, 4, 5), (5, -12, 13), (600, 800, 1000), (0, 7, -7)):
                self.assertEqual(ice_sum(sides, (a, b, c)), c ** (sides * sides))

    def test_six_sides(self):
        told = {}
        for square in list_squares(6):
            told[ice_counts(square)] = told.get(ice_counts(square), 0) + 1
        for a, b, c in ((2, 3, 4), (-1, 5, 7)):
            total = sum(many * a ** p * b ** q * c ** r for (p, q, r), many in told.items())
            self.assertEqual(ice_sum(6, (a, b, c)), total)


class Lines(unittest.TestCase):
    def test_weights(self):
        for square in MANY:
            sides = len(square)
            for step in (1, -1000, 1000, 0):
                rows = tuple((7 * at * at - 30) % 1000 for at in range(sides))
                columns = tuple(-1000 + 13 * at for at in range(sides))
                self.assertEqual(line_weight(square, rows, columns, step), plain_line(square, rows, columns, step))
        self.assertEqual(line_weight(X, (1000,) * 3, (-1000,) * 3, 1000), plain_line(X, (1000,) * 3, (-1000,) * 3, 1000))

    def test_sums(self):
        for sides in (1, 2, 3, 4):
            for rows, columns, step in (((4, -1, 9, 2), (0, 3, 3, -8), 2), ((1, 1, 1, 1), (0, 0, 0, 0), -3)):
                rows, columns = rows[:sides], columns[:sides]
                told = sum(plain_line(square, rows, columns, step) for square in SMALL[sides])
                self.assertEqual(line_sum(rows, columns, step), told)

    def test_sums_do_not_depend_on_the_order(self):
        rows, columns = (1, 5, -3, 8, 2, 2), (0, 7, 7, -4, 11, 3)
        told = line_sum(rows, columns, 3)
        self.assertEqual(line_sum(rows[::-1], columns, 3), told)
        self.assertEqual(line_sum(rows, (7, 0, 7, 11, 3, -4), 3), told)
        self.assertEqual(line_sum((5, 1) + rows[2:], columns[1:] + columns[:1], 3), told)

    def test_sums_are_quotients(self):
        rows, columns = (1, 5, -3, 8, 2, 1000), (0, 7, -1000, -4, 11, 3)
        for sides in (1, 2, 3, 4, 5, 6):
            for step in (1, 2, -3, 0, 1000, -1000):
                told = line_sum(rows[:sides], columns[:sides], step)
                self.assertEqual(line_quotient(rows[:sides], columns[:sides], step), told)
                self.assertEqual(line_quotient(rows[:sides], columns[:sides], step),
                                 plain_quotient(rows[:sides], columns[:sides], step))

    def test_quotients_where_the_table_begins_with_nought(self):
        for rows, columns, step in (((0, 1, 2), (0, 5, 7), 1), ((3, 4, 5), (7, 3, 4), -1), ((0, 1, 2), (2, 1, 0), 1)):
            self.assertEqual(line_quotient(rows, columns, step), line_sum(rows, columns, step))

    def test_quotients_of_many_lines(self):
        rows, columns = tuple(range(-1000, -988)), tuple(range(1000, 988, -1))
        told = line_quotient(rows, columns, 17)
        self.assertEqual(line_quotient(rows[::-1], columns[3:] + columns[:3], 17), told)
        self.assertEqual(line_quotient(rows, columns, 0), 0)
        self.assertEqual(line_quotient(rows[:7], columns[:7], 1), plain_quotient(rows[:7], columns[:7], 1))

    def test_determinants(self):
        for table in ([[5]], [[0]], [[0, 1], [1, 0]], [[1, 2], [2, 4]], [[0, 2, 1], [0, 1, 5], [7, 1, 1]],
                      [[0, 0, 1], [0, 1, 5], [0, 1, 1]], [[2, 1, 0, 3], [4, 2, 1, 1], [0, 1, 1, 1], [5, 5, 2, -1]]):
            self.assertEqual(determinant(table), determinant_by_orders(table))

    def test_one_and_twelve_sides(self):
        self.assertEqual(ice_of(((1,),)), (((0, 1),), ((0,), (1,))))
        self.assertEqual(sort_counts(unit_square(12)), (0, 0, 66, 66, 12, 0))
        self.assertEqual(sort_counts(last_square(12)), (66, 66, 0, 0, 12, 0))
        self.assertEqual(len(touchings(last_square(12))), 66)


if __name__ == "__main__":
    unittest.main()
