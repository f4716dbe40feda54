"""Squares between bounds of their heights, held against lists of all squares."""

import itertools
import random
import unittest

from signsquared.bounded import bounds_go, bounds_paper, greatest_under, least_above
from signsquared.errors import InvalidBounds
from signsquared.keys import joined_orders, key_with
from signsquared.squares import last_square, order_square, unit_square
from tests.plainfacts import heights_of, keeps, plain_are_bounds, random_bounds
from tests.plainly import plain_below, plain_heights, random_squares


def told(sides, lows, highs):
    return [square for square, table in heights_of(sides) if keeps(table, lows, highs)]


def lots_of_bounds(sides, many=40):
    chance = random.Random(sides)
    found = [(), ((0, 0, 0),), ((sides, sides, -40),), ((0, sides, 40),), ((sides, 0, sides),), ((1, 1, 2),) * 40]
    for at in range(many):
        found.append(random_bounds(chance, sides, at % 5 + 1))
    return found


def bounds_of(chance, square, many, by):
    """Bounds that a square keeps, some of them as strict as can be."""
    table, sides, found = plain_heights(square), len(square), []
    for _ in range(many):
        i, j = chance.randint(0, sides), chance.randint(0, sides)
        found.append((i, j, table[i][j] + by * chance.choice((0, 0, 1, 2, 3))))
    return tuple(found)


class Bounds(unittest.TestCase):
    def test_the_bounds_of_each_number(self):
        for sides in (1, 3, 12):
            points = (-1, 0, sides, sides + 1)
            for bound in itertools.product(points, points, (-41, -40, 0, 40, 41)):
                right = plain_are_bounds(sides, (bound,))
                for ask in (least_above, greatest_under):
                    if right:
                        ask(sides, (bound,))
                    else:
                        with self.assertRaises(InvalidBounds):
                            ask(sides, (bound,))


class LeastAndGreatest(unittest.TestCase):
    def test_beside_lists(self):
        for sides in (1, 2, 3, 4):
            for bounds in lots_of_bounds(sides):
                above, under = told(sides, bounds, ()), told(sides, (), bounds)
                low, high = least_above(sides, bounds), greatest_under(sides, bounds)
                if above:
                    self.assertIn(low, above)
                    self.assertTrue(all(plain_below(low, some) for some in above))
                else:
                    self.assertIsNone(low)
                if under:
                    self.assertIn(high, under)
                    self.assertTrue(all(plain_below(some, high) for some in under))
                else:
                    self.assertIsNone(high)

    def test_each_bound(self):
        for sides in (1, 2, 3):
            for i, j, height in itertools.product(range(sides + 1), range(sides + 1), range(-3, sides + 4)):
                above, under = told(sides, ((i, j, height),), ()), told(sides, (), ((i, j, height),))
                self.assertEqual(least_above(sides, ((i, j, height),)) in above, above != [])
                self.assertEqual(greatest_under(sides, ((i, j, height),)) in under, under != [])

    def test_no_bounds(self):
        for sides in range(1, 13):
            self.assertEqual(least_above(sides, ()), unit_square(sides))
            self.assertEqual(greatest_under(sides, ()), last_square(sides))

    def test_bounds_of_a_square(self):
        """All heights of a square as bounds lead to the square itself."""
        for sides in (1, 2, 5, 6):
            for square in random_squares(sides, 4):
                table = plain_heights(square)
                bounds = tuple((i, j, table[i][j]) for i in range(1, sides) for j in range(1, sides))[:40]
                self.assertEqual(least_above(sides, bounds), square)
                self.assertEqual(greatest_under(sides, bounds), square)

    def test_many_sides(self):
        for sides in (7, 12):
            chance = random.Random(sides)
            for square in random_squares(sides, 10):
                lows, highs = bounds_of(chance, square, 6, -1), bounds_of(chance, square, 40, 1)
                low, high = least_above(sides, lows), greatest_under(sides, highs)
                self.assertTrue(keeps(plain_heights(low), lows, ()) and plain_below(low, square))
                self.assertTrue(keeps(plain_heights(high), (), highs) and plain_below(square, high))

    def test_join_of_keys(self):
        for sides in (2, 3, 4, 7, 12):
            chance = random.Random(sides)
            for square in random_squares(sides, 6):
                lows, orders = bounds_of(chance, square, 9, -1), []
                for i, j, height in lows:
                    height += (i + j + height) % 2
                    if 0 < i < sides and 0 < j < sides and height > abs(i - j):
                        orders.append(key_with(sides, (i, j), height))
                joined = joined_orders(tuple(orders)) if orders else unit_square(sides)
                self.assertEqual(least_above(sides, lows), joined)

    def test_even_and_odd_heights(self):
        self.assertEqual(least_above(3, ((1, 1, 1),)), least_above(3, ((1, 1, 2),)))
        self.assertEqual(greatest_under(3, ((1, 1, 1),)), greatest_under(3, ((1, 1, 0),)))
        self.assertIsNone(least_above(3, ((1, 1, 3),)))
        self.assertIsNone(greatest_under(3, ((1, 1, -1),)))
        self.assertIsNone(greatest_under(3, ((1, 2, 0),)))
        self.assertEqual(least_above(3, ((1, 1, -1), (2, 2, -40), (1, 2, 0))), unit_square(3))
        self.assertEqual(greatest_under(3, ((1, 1, 3), (2, 2, 40), (1, 2, 4))), last_square(3))
        self.assertEqual(least_above(2, ((1, 1, 1),)), order_square((1, 0)))


class Both(unittest.TestCase):
    def check(self, sides, lows, highs, goes):
        self.assertIs(bounds_go(sides, lows, highs), goes)
        paper = bounds_paper(sides, lows, highs)
        if goes:
            self.assertIsNone(paper)
            return None
        self.assertIsInstance(paper, tuple)
        low, high = paper
        self.assertTrue(low is None or low in range(len(lows)) and type(low) is int)
        self.assertTrue(high is None or high in range(len(highs)) and type(high) is int)
        return () if low is None else (lows[low],), () if high is None else (highs[high],)

    def test_beside_lists(self):
        found = {}
        for sides in (1, 2, 3, 4):
            chance = random.Random(sides)
            for at in range(80):
                lows, highs = random_bounds(chance, sides, at % 4, -2, sides), random_bounds(chance, sides, at // 4 % 4, 0)
                if at % 3 == 0:
                    lows = tuple((i, j, h) for i, j, h in lows if h <= min(i + j, 2 * sides - i - j))
                    highs = tuple((i, j, h) for i, j, h in highs if h >= abs(i - j))
                goes = told(sides, lows, highs) != []
                pair = self.check(sides, lows, highs, goes)
                if pair:
                    self.assertEqual(told(sides, *pair), [])
                    found[tuple(map(len, pair))] = True
                found[goes] = True
        self.assertTrue({True, False, (1, 0), (0, 1), (1, 1)} <= set(found), found)

    def test_all_pairs_of_three_sides(self):
        some = [(i, j, h) for i in range(4) for j in range(4) for h in range(-1, 5)]
        for low in some[::3]:
            for high in some:
                goes = told(3, (low,), (high,)) != []
                pair = self.check(3, (low,), (high,), goes)
                if pair:
                    self.assertEqual(told(3, *pair), [])

    def test_many_sides(self):
        for sides in (7, 12):
            chance = random.Random(sides)
            for square in random_squares(sides, 8):
                lows, highs = bounds_of(chance, square, 40, -1), bounds_of(chance, square, 40, 1)
                self.check(sides, lows, highs, True)
                table = plain_heights(square)
                i, j = chance.randint(1, sides - 1), chance.randint(1, sides - 1)
                at = chance.randint(0, 39)
                worse = highs[:at] + ((i, j, table[i][j] - 1),) + highs[at + 1:]
                pair = self.check(sides, lows[:39] + ((i, j, table[i][j]),), worse, False)
                low, high = pair
                if low and high:
                    # A bound forces heights as far as neighbours differ by 1 only.
                    (i, j, h), (r, c, g) = low[0], high[0]
                    self.assertGreater(h + (i + j + h) % 2 - abs(i - r) - abs(j - c), g)
                else:
                    self.assertIsNone(least_above(sides, low) if low else greatest_under(sides, high))

    def test_squares_between(self):
        """The least one above the one bounds keeps the other ones just if some square keeps both."""
        for sides in (3, 4, 6, 12):
            chance = random.Random(sides)
            for _ in range(60):
                lows, highs = random_bounds(chance, sides, 3, 0, sides), random_bounds(chance, sides, 3, 0, sides)
                low, high = least_above(sides, lows), greatest_under(sides, highs)
                goes = bool(low and high) and plain_below(low, high)
                self.assertIs(bounds_go(sides, lows, highs), goes)
                self.assertIs(bounds_paper(sides, lows, highs) is None, goes)


if __name__ == "__main__":
    unittest.main()
