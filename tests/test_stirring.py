"""Counts by ties, stirring, shares that stay and rings of two ties, held against plain reckonings."""

import math
import unittest

from signsquared.loopturns import led_round
from signsquared.meanders import ring_counts, ring_determinant, rings_between
from signsquared.ringties import all_ties, ties_mirrored, ties_turned
from signsquared.squarelists import count_squares, squares
from signsquared.stirring import shares_stay, stir_shares, stir_way, stirred, stirred_by
from signsquared.tiecounts import count_tied, squares_tied, tie_counts
from tests import wrongs
from tests.plainly import SMALL, determinant_by_orders, plain_ties, plain_ways
from tests.wrongs import spoilt

NESTED = tuple(range(23, -1, -1))
SIDE_BY_SIDE = tuple(place ^ 1 for place in range(24))


def plain_stirred(ties, place):
    """Ties stirred at a place, by their pairs."""
    after = (place + 1) % len(ties)
    two = {frozenset(pair) for pair in enumerate(ties)}
    if frozenset((place, after)) not in two:
        others = [ties[place], ties[after]]
        two -= {frozenset((place, others[0])), frozenset((after, others[1]))}
        two |= {frozenset((place, after)), frozenset(others)}
    return tuple(next(iter(pair - {at})) for at in range(len(ties)) for pair in two if at in pair)


def plain_stay(pairs, shares):
    """Whether shares of all ties fulfil what is told of sums."""
    every = plain_ties(pairs)
    return all(
        sum(
            share for ties, share in zip(every, shares) for place in range(2 * pairs)
            if plain_stirred(ties, place) == end
        ) == 2 * pairs * own
        for end, own in zip(every, shares)
    )


def plain_steps(start):
    """How many stirrings lead to which ties at least."""
    steps, newest = {start: 0}, [start]
    while newest:
        come = {plain_stirred(ties, place) for ties in newest for place in range(len(ties))}
        newest = [ties for ties in come if ties not in steps]
        steps.update({ties: max(steps.values()) + 1 for ties in newest})
    return steps


def plain_ring_count(one, other):
    lots = {place: {place} for place in range(len(one))}
    for ties in (one, other):
        for place, partner in enumerate(ties):
            both = lots[place] | lots[partner]
            for some in both:
                lots[some] = both
    return len({min(lot) for lot in lots.values()})


def told_determinant(pairs, number):
    """The determinant of the table of rings, as the guarantee tells it."""
    def picks(many):
        return math.comb(2 * pairs, many) if many >= 0 else 0

    factors, product = [1, number], 1
    for j in range(1, pairs + 1):
        times = picks(pairs - j) - 2 * picks(pairs - j - 1) + picks(pairs - j - 2)
        product *= factors[j] ** times
        factors.append(number * factors[j] - factors[j - 1])
    return product


class TieCounts(unittest.TestCase):
    def test_squares_tied(self):
        for pairs in SMALL:
            told = {square: tuple(other for _, other in plain_ways(square)) for square in SMALL[pairs]}
            for ties in plain_ties(pairs):
                with_these = [square for square in SMALL[pairs] if told[square] == ties]
                self.assertEqual(squares_tied(ties), with_these)
                self.assertEqual(count_tied(ties), len(with_these))

    def test_tie_counts(self):
        for sides in (1, 2, 3, 4, 5):
            told = tie_counts(sides)
            self.assertEqual([ties for ties, _ in told], all_ties(sides))
            self.assertEqual(sum(many for _, many in told), count_squares(sides))
            self.assertTrue(all(many > 0 for _, many in told))
        for sides in SMALL:
            self.assertEqual(tie_counts(sides), [(ties, count_tied(ties)) for ties in plain_ties(sides)])

    def test_ties_of_five_pairs(self):
        told = dict(tie_counts(5))
        for ties in list(told)[::7]:
            self.assertEqual(count_tied(ties), told[ties])
            self.assertEqual(squares_tied(ties), sorted(set(squares_tied(ties))))
        self.assertEqual(sorted(sum([squares_tied(ties) for ties in told], [])), squares(5))

    def test_turned_and_mirrored_ties_are_those_of_as_many_squares(self):
        for sides in (1, 2, 3, 4, 5):
            told = dict(tie_counts(sides))
            for ties, many in told.items():
                self.assertEqual(told[ties_turned(ties, 1)], many)
                self.assertEqual(told[ties_mirrored(ties)], many)

    def test_led_round(self):
        for ties in all_ties(4):
            self.assertEqual(sorted(led_round(square, 1) for square in squares_tied(ties)), squares_tied(ties_turned(ties, -1)))


class Stirring(unittest.TestCase):
    def test_stirred(self):
        for ties in [ties for pairs in (1, 2, 3, 4, 5) for ties in all_ties(pairs)] + [NESTED, SIDE_BY_SIDE]:
            for place in range(len(ties)):
                self.assertEqual(stirred(ties, place), plain_stirred(ties, place))

    def test_rules_of_stirring(self):
        for ties in all_ties(4) + [NESTED, SIDE_BY_SIDE]:
            places = len(ties)
            for one in range(places):
                self.assertEqual(stirred_by(ties, (one, one)), stirred(ties, one))
                for other in range(places):
                    if (one - other) % places in (1, places - 1):
                        self.assertEqual(stirred_by(ties, (one, other, one)), stirred(ties, one))
                    else:
                        self.assertEqual(stirred_by(ties, (one, other)), stirred_by(ties, (other, one)))

    def test_words(self):
        for ties in ((1, 0), (3, 2, 1, 0), NESTED, SIDE_BY_SIDE):
            self.assertEqual(stirred_by(ties, ()), ties)
            word = tuple((7 * at + 3) % len(ties) for at in range(60))
            come = ties
            for place in word:
                come = plain_stirred(come, place)
            self.assertEqual(stirred_by(ties, word), come)

    def test_shortest_ways(self):
        for pairs in (1, 2, 3, 4):
            for one in all_ties(pairs):
                steps = plain_steps(one)
                self.assertEqual(sorted(steps), all_ties(pairs))
                for other in all_ties(pairs):
                    way = stir_way(one, other)
                    self.assertIsInstance(way, tuple)
                    self.assertEqual(len(way), steps[other])
                    self.assertEqual(stirred_by(one, way), other)

    def test_ways_of_six_pairs(self):
        every = all_ties(6)
        for one in every[::40]:
            steps = plain_steps(one)
            for other in every[::11]:
                way = stir_way(one, other)
                self.assertEqual((len(way), stirred_by(one, way)), (steps[other], other))

    def test_shares_stay(self):
        for pairs in (1, 2, 3, 4, 5):
            shares = stir_shares(pairs)
            self.assertEqual(len(shares), len(all_ties(pairs)))
            self.assertEqual(math.gcd(*shares), 1)
            self.assertIs(shares_stay(pairs, shares), True)
            if pairs < 5:
                self.assertTrue(plain_stay(pairs, shares))

    def test_shares_are_numbers_of_squares(self):
        for pairs in (1, 2, 3, 4, 5):
            self.assertEqual(stir_shares(pairs), tuple(many for _, many in tie_counts(pairs)))
            self.assertEqual(min(stir_shares(pairs)), 1)
            self.assertEqual(stir_shares(pairs)[-1], 1)
            self.assertEqual(sum(stir_shares(pairs)), count_squares(pairs))

    def test_what_stays(self):
        for pairs in (1, 2, 3, 4, 5):
            shares = stir_shares(pairs)
            for times in (2, 10 ** 117):
                self.assertIs(shares_stay(pairs, tuple(times * share for share in shares)), True)
            self.assertIs(shares_stay(pairs, (0,) * len(shares)), False)
            self.assertIs(shares_stay(pairs, tuple(-share for share in shares)), False)
            for other in (1, 2, 3, 4, 5):
                self.assertIs(shares_stay(other, shares), other == pairs or (pairs, other) == (1, 1))

    def test_what_does_not_stay(self):
        for pairs in (2, 3, 4):
            shares = stir_shares(pairs)
            for value in spoilt(shares) + [some for some in wrongs.ANY if some != (1, 1)]:
                with self.subTest(pairs=pairs, value=repr(value)[:80]):
                    self.assertIs(shares_stay(pairs, value), False)
        self.assertIs(shares_stay(1, (True,)), False)
        self.assertIs(shares_stay(2, (True, True)), False)
        self.assertIs(shares_stay(2, [1, 1]), False)
        self.assertIs(shares_stay(2, (1, 2)), False)
        self.assertIs(shares_stay(2, (2, 1)), False)

    def test_all_few_shares(self):
        for one in range(4):
            for other in range(4):
                told = (one, other)
                self.assertIs(shares_stay(2, told), max(told) > 0 and plain_stay(2, told))


class Rings(unittest.TestCase):
    def test_rings_between(self):
        for pairs in (1, 2, 3, 4):
            for one in all_ties(pairs):
                for other in all_ties(pairs):
                    self.assertEqual(rings_between(one, other), plain_ring_count(one, other))
        for one in (NESTED, SIDE_BY_SIDE, ties_turned(NESTED, 5)):
            for other in (NESTED, SIDE_BY_SIDE, ties_turned(SIDE_BY_SIDE, 1)):
                self.assertEqual(rings_between(one, other), plain_ring_count(one, other))
        self.assertEqual(rings_between(NESTED, NESTED), 12)

    def test_ring_counts(self):
        for pairs in (1, 2, 3, 4, 5):
            every = all_ties(pairs)
            rings = [plain_ring_count(one, other) for one in every for other in every]
            self.assertEqual(ring_counts(pairs), tuple(rings.count(many) for many in range(pairs + 1)))

    def test_determinants_as_told(self):
        for pairs in (1, 2, 3, 4, 5):
            for number in (-1000, -7, -2, -1, 0, 1, 2, 3, 5, 1000):
                self.assertEqual(ring_determinant(pairs, number), told_determinant(pairs, number))

    def test_determinants_of_the_table(self):
        for pairs in (1, 2, 3):
            every = all_ties(pairs)
            for number in (-1000, -1, 0, 2, 3, 999):
                table = [[number ** plain_ring_count(one, other) for other in every] for one in every]
                self.assertEqual(ring_determinant(pairs, number), determinant_by_orders(table))


if __name__ == "__main__":
    unittest.main()
