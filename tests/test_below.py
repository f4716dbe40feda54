"""What is below what, meets, joins, ways up, keys and orders, held against plain reckonings."""

import unittest

from signsquared.below import below_paper, count_ways_up, is_below, join, meet, squares_between, way_up
from signsquared.heights import heights, hills, hollows, raised, rise
from signsquared.keys import joined_orders, key_with, keys, keys_below, orders_over, orders_under
from signsquared.squarelists import squares
from signsquared.squares import last_square, order_square, square_order, unit_square
from tests.plainly import SMALL, order_to_square, plain_below, plain_heights, plain_orders, random_squares

PAIRS = [(one, other) for sides in (1, 2, 3) for one in SMALL[sides] for other in SMALL[sides]]
PAIRS += [(one, other) for one in SMALL[4][::5] for other in SMALL[4][::3]]
GREAT_PAIRS = [pair for sides in (5, 8, 12) for pair in zip(random_squares(sides, 5, 1), random_squares(sides, 5, 2))]


def greatest(some):
    """The one of some squares that all of them are below."""
    return [square for square in some if all(plain_below(other, square) for other in some)][0]


def least(some):
    return [square for square in some if all(plain_below(square, other) for other in some)][0]


def plain_ways(one, other):
    if one == other:
        return 1
    ways = [raised(one, point) for point in hollows(one)]
    return sum(plain_ways(upper, other) for upper in ways if plain_below(upper, other))


class Below(unittest.TestCase):
    def test_below(self):
        for one, other in PAIRS + GREAT_PAIRS:
            self.assertIs(is_below(one, other), plain_below(one, other))

    def test_unit_and_last(self):
        for sides in (1, 5, 12):
            for square in random_squares(sides, 4):
                self.assertTrue(is_below(unit_square(sides), square))
                self.assertTrue(is_below(square, last_square(sides)))
                self.assertTrue(is_below(square, square))

    def test_papers(self):
        for one, other in PAIRS + GREAT_PAIRS:
            points = range(len(one) + 1)
            low, high = plain_heights(one), plain_heights(other)
            told = [(i, j) for i in points for j in points if low[i][j] > high[i][j]]
            self.assertEqual(below_paper(one, other), told[0] if told else None)

    def test_meets_and_joins(self):
        for one, other in PAIRS:
            lower = [some for some in SMALL[len(one)] if plain_below(some, one) and plain_below(some, other)]
            upper = [some for some in SMALL[len(one)] if plain_below(one, some) and plain_below(other, some)]
            self.assertEqual(meet(one, other), greatest(lower))
            self.assertEqual(join(one, other), least(upper))

    def test_heights_of_meets_and_joins(self):
        for one, other in PAIRS + GREAT_PAIRS:
            points = range(len(one) + 1)
            for made, chosen in ((meet(one, other), min), (join(one, other), max)):
                told = [[chosen(plain_heights(one)[i][j], plain_heights(other)[i][j]) for j in points] for i in points]
                self.assertEqual([list(row) for row in plain_heights(made)], told)

    def test_ways_up(self):
        pairs = PAIRS + GREAT_PAIRS + [(one, join(one, other)) for one, other in GREAT_PAIRS]
        pairs += [(meet(one, other), other) for one, other in GREAT_PAIRS] + [(unit_square(12), last_square(12))]
        for one, other in pairs:
            way = way_up(one, other)
            if not plain_below(one, other):
                self.assertIsNone(way)
                continue
            self.assertIsInstance(way, tuple)
            self.assertEqual(len(way), rise(other) - rise(one))
            for point in way:
                one = raised(one, point)
            self.assertEqual(one, other)

    def test_squares_between(self):
        for one, other in PAIRS:
            told = [some for some in SMALL[len(one)] if plain_below(one, some) and plain_below(some, other)]
            self.assertEqual(squares_between(one, other), told)

    def test_counts_of_ways_up(self):
        for one, other in PAIRS:
            if rise(other) - rise(one) <= 6:
                told = plain_ways(one, other) if plain_below(one, other) else 0
                self.assertEqual(count_ways_up(one, other), told)
        self.assertEqual(count_ways_up(unit_square(4), last_square(4)), plain_ways(unit_square(4), last_square(4)))
        self.assertEqual(count_ways_up(((1,),), ((1,),)), 1)


class Orders(unittest.TestCase):
    def test_orders_below_orders(self):
        """By counting ones among first rows and first columns."""
        for one in plain_orders(4):
            for other in plain_orders(4):
                told = all(
                    sum(at < columns for at in one[:rows]) >= sum(at < columns for at in other[:rows])
                    for rows in range(5) for columns in range(5)
                )
                self.assertEqual(is_below(order_square(one), order_square(other)), told)

    def test_next_orders(self):
        for sides in (1, 2, 3, 4):
            orders = plain_orders(sides)
            for square in SMALL[sides]:
                lower = [some for some in orders if plain_below(order_to_square(some), square)]
                upper = [some for some in orders if plain_below(square, order_to_square(some))]
                self.assertEqual(orders_under(square), sorted(
                    some for some in lower
                    if [more for more in lower if plain_below(order_to_square(some), order_to_square(more))] == [some]
                ))
                self.assertEqual(orders_over(square), sorted(
                    some for some in upper
                    if [less for less in upper if plain_below(order_to_square(less), order_to_square(some))] == [some]
                ))

    def test_squares_are_joins_and_meets_of_orders(self):
        for square in squares(4) + squares(5)[::17]:
            self.assertEqual(joined_orders(tuple(orders_under(square))), square)
            upper = order_square(orders_over(square)[0])
            for order in orders_over(square):
                upper = meet(upper, order_square(order))
            self.assertEqual(upper, square)

    def test_orders_of_five_sides(self):
        for order in plain_orders(5)[::13]:
            self.assertEqual(orders_under(order_square(order)), [order])
            self.assertEqual(orders_over(order_square(order)), [order])


class Keys(unittest.TestCase):
    def test_keys(self):
        for sides in (1, 2, 3, 4):
            unit, told = unit_square(sides), []
            for square in SMALL[sides]:
                lower = [some for some in SMALL[sides] if some != square and plain_below(some, square)]
                joins = {join(one, other) for one in lower for other in lower}
                if square != unit and square not in joins:
                    told.append(square_order(square))
            self.assertEqual(keys(sides), sorted(told))

    def test_how_many(self):
        for sides in range(1, 13):
            told = keys(sides)
            self.assertEqual(len(told), (sides - 1) * sides * (sides + 1) // 6)
            self.assertEqual(told, sorted(set(told)))

    def test_each_key_has_one_hill(self):
        for sides in (2, 5, 12):
            for order in keys(sides)[::7]:
                self.assertEqual(len(hills(order_square(order))), 1)

    def test_least_squares_with_a_height(self):
        for sides in (2, 3, 4):
            for i in range(1, sides):
                for j in range(1, sides):
                    told = {heights(square)[i][j] for square in SMALL[sides]}
                    for height in sorted(told - {abs(i - j)}):
                        high = [some for some in SMALL[sides] if plain_heights(some)[i][j] >= height]
                        self.assertEqual(order_square(key_with(sides, (i, j), height)), least(high))

    def test_heights_that_none_has(self):
        from signsquared.errors import InvalidNumber
        for sides in (2, 3, 4):
            for i in range(1, sides):
                for j in range(1, sides):
                    told = {heights(square)[i][j] for square in SMALL[sides]} - {abs(i - j)}
                    for height in set(range(-3, 9)) - told:
                        with self.assertRaises(InvalidNumber):
                            key_with(sides, (i, j), height)

    def test_keys_below(self):
        for square in SMALL[1] + SMALL[2] + SMALL[3] + SMALL[4] + random_squares(7, 3):
            told = [order for order in keys(len(square)) if plain_below(order_to_square(order), square)]
            self.assertEqual(keys_below(square), told)

    def test_a_square_is_the_join_of_its_keys(self):
        for square in squares(4):
            if square != unit_square(4):
                self.assertEqual(joined_orders(tuple(keys_below(square))), square)
        self.assertEqual(len({tuple(keys_below(square)) for square in squares(5)}), 429)

    def test_joined_orders(self):
        some = plain_orders(5)
        for orders in (tuple(some[:1]), tuple(some[3:50:7]), tuple(some[:60]), (some[7],) * 60):
            told = order_square(orders[0])
            for order in orders:
                told = join(told, order_square(order))
            self.assertEqual(joined_orders(orders), told)
        self.assertEqual(joined_orders(((0,),)), ((1,),))
        self.assertEqual(joined_orders((tuple(range(12)), tuple(range(12))[::-1])), last_square(12))


if __name__ == "__main__":
    unittest.main()
