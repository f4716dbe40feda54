"""Sums over all squares, and what divides the number of squares, held against plain reckonings."""

import math
import random
import unittest
from fractions import Fraction

from signsquared.signspreads import minus_spread
from signsquared.signsums import count_power, is_count_odd, sum_by, sum_by_two, twos_first, twos_rest
from signsquared.squarelists import count_squares
from tests.plainfacts import LISTED

NUMBERS = (-1000, -7, -2, -1, 0, 1, 2, 3, 4, 10, 1000)


def minus_count(square):
    return sum(row.count(-1) for row in square)


def overtaking_count(square):
    signs = [(i, j, sign) for i, row in enumerate(square) for j, sign in enumerate(row) if sign]
    return sum(one * other for i, j, one in signs for r, c, other in signs if r > i and c < j)


def plain_sum(sides, number):
    """The sum by an integer, going down row by row from one lot of columns that come to 1 to the next one."""
    ways = {frozenset(): 1}
    for rows in range(1, sides + 1):
        further = {}
        for held, worth in ways.items():
            for more, minuses in next_lots(sorted(held), sides):
                further[more] = further.get(more, 0) + worth * number ** minuses
        ways = further
    return ways[frozenset(range(sides))]


def next_lots(held, sides):
    """The lots of one column more that lie between the columns held, and how many of these go away."""
    begun = [()]
    for at in range(len(held) + 1):
        low = held[at - 1] if at else 0
        high = held[at] if at < len(held) else sides - 1
        begun = [some + (column,) for some in begun for column in range(low, high + 1) if not some or some[-1] < column]
    return [(frozenset(some), len(set(held) - set(some))) for some in begun]


def odd_threes(half):
    told = Fraction(3) ** (half * (half + 1))
    for j in range(1, half + 1):
        told *= Fraction(math.factorial(3 * j - 1), math.factorial(half + j)) ** 2
    return told


def even_threes(half):
    told = Fraction(3) ** (half * half - 1)
    told *= Fraction(math.factorial(3 * half - 1) * math.factorial(half - 1), math.factorial(2 * half - 1) ** 2)
    for j in range(1, half):
        told *= Fraction(math.factorial(3 * j - 1), math.factorial(half + j - 1)) ** 2
    return told


def times_in(number, prime):
    times = 0
    while number % prime == 0:
        number, times = number // prime, times + 1
    return times


class Sums(unittest.TestCase):
    def test_by_an_integer(self):
        for sides, squares in LISTED.items():
            minuses = [minus_count(square) for square in squares]
            for number in NUMBERS:
                self.assertEqual(sum_by(sides, number), sum(number ** many for many in minuses))

    def test_seven_sides(self):
        spread = minus_spread(7)
        for number in NUMBERS:
            told = sum(many * number ** at for at, many in enumerate(spread))
            self.assertEqual(sum_by(7, number), told)
            self.assertEqual(plain_sum(7, number), told)

    def test_nothing_to_the_power_nothing(self):
        for sides in range(1, 8):
            self.assertEqual(sum_by(sides, 0), math.factorial(sides))

    def test_one_two_and_three(self):
        for sides in range(1, 12):
            for number in (1, 2, 3):
                self.assertEqual(sum_by(sides, number), plain_sum(sides, number))

    def test_one_two_and_three_of_many_sides(self):
        for sides in range(1, 41):
            self.assertEqual(sum_by(sides, 1), count_squares(sides))
            self.assertEqual(sum_by(sides, 2), 2 ** math.comb(sides, 2))
            told = sum_by(sides, 3)
            self.assertEqual(told, odd_threes(sides // 2) if sides % 2 else even_threes(sides // 2))
            self.assertIsInstance(told, int)

    def test_twos_by_the_first_column(self):
        for sides, squares in LISTED.items():
            for column in range(sides):
                told = sum(2 ** minus_count(square) for square in squares if square[0][column] == 1)
                self.assertEqual(twos_first(sides, column), told)
        for sides in (7, 12, 13, 40):
            told = [twos_first(sides, column) for column in range(sides)]
            self.assertEqual(sum(told), sum_by(sides, 2))
            self.assertEqual(told, [2 ** math.comb(sides - 1, 2) * math.comb(sides - 1, column) for column in range(sides)])

    def test_by_two_integers(self):
        pairs = [(0, 0), (0, 5), (5, 0), (1, 1), (2, 3), (-1, 2), (3, -1), (-7, -3), (1000, -1000), (-1, -1), (1, 4)]
        for sides, squares in LISTED.items():
            both = [(overtaking_count(square), minus_count(square)) for square in squares]
            for number, other in pairs:
                told = sum(number ** over * other ** minus for over, minus in both)
                self.assertEqual(sum_by_two(sides, number, other), told)

    def test_guarantees_of_sums(self):
        for sides in range(1, 7):
            for x in (1, 2, 5):
                # x to the power of the overtakings less the minuses, times x + 1 to that of the minuses.
                total = sum(
                    x ** (overtaking_count(square) - minus_count(square)) * (x + 1) ** minus_count(square)
                    for square in LISTED[sides]
                )
                self.assertEqual(total, (x + 1) ** math.comb(sides, 2))
            self.assertEqual(sum_by_two(sides, 1, 2), 2 ** math.comb(sides, 2))
            self.assertEqual(sum_by_two(sides, 1, 7), sum_by(sides, 7))


class Rests(unittest.TestCase):
    def test_small(self):
        for sides in list(range(1, 30)) + [60]:
            for modulus in list(range(1, 40)) + [10 ** 12, 2 ** 39, 2 ** 35 - 1]:
                self.assertEqual(twos_rest(sides, modulus), 2 ** math.comb(sides, 2) % modulus)

    def test_great(self):
        chance = random.Random(3)
        for _ in range(200):
            sides, modulus = chance.randint(1, 10 ** 30), chance.randint(1, 10 ** 12)
            self.assertEqual(twos_rest(sides, modulus), pow(2, sides * (sides - 1) // 2, modulus))
        for sides in (10 ** 30, 10 ** 30 - 1, 1, 2):
            for modulus in (1, 2, 3, 4, 10 ** 12, 10 ** 12 - 1):
                self.assertEqual(twos_rest(sides, modulus), pow(2, sides * (sides - 1) // 2, modulus))

    def test_a_modulus_of_one(self):
        self.assertEqual([twos_rest(sides, 1) for sides in (1, 2, 3, 10 ** 30)], [0, 0, 0, 0])


class Divisors(unittest.TestCase):
    def test_odd(self):
        for sides in range(1, 61):
            self.assertIs(is_count_odd(sides), count_squares(sides) % 2 == 1)

    def test_odd_by_many_sides(self):
        """The sides whose number of squares is odd are told one by one: each is the one ahead and twice that ahead of it."""
        odd = [1, 1]
        while odd[-1] <= 10 ** 30:
            odd.append(odd[-1] + 2 * odd[-2])
        for sides in odd[:-1]:
            self.assertIs(is_count_odd(sides), True)
            for other in (sides - 2, sides - 1, sides + 1, sides + 2, 2 * sides, sides + 16):
                if 1 <= other <= 10 ** 30:
                    self.assertIs(is_count_odd(other), other in odd)
        self.assertIs(is_count_odd(10 ** 30), False)

    def test_odd_by_powers(self):
        for sides in list(range(1, 501)):
            self.assertIs(is_count_odd(sides), count_power(sides, 2) == 0)

    def test_powers(self):
        primes = [p for p in range(2, 1000) if all(p % q for q in range(2, p))]
        self.assertEqual(primes[-1], 997)
        for sides in range(1, 61):
            for prime in primes[:40]:
                self.assertEqual(count_power(sides, prime), times_in(count_squares(sides), prime))

    def test_powers_of_many_sides(self):
        for sides in (61, 100, 333, 499, 500):
            many = Fraction(1)
            for k in range(sides):
                many *= Fraction(math.factorial(3 * k + 1), math.factorial(sides + k))
            self.assertEqual(many.denominator, 1)
            for prime in (2, 3, 5, 7, 31, 499, 503, 991, 997):
                self.assertEqual(count_power(sides, prime), times_in(many.numerator, prime))

    def test_all_powers_make_the_number(self):
        for sides in (1, 2, 7, 30):
            told = math.prod(p ** count_power(sides, p) for p in range(2, 3 * sides) if all(p % q for q in range(2, p)))
            self.assertEqual(told, count_squares(sides))


if __name__ == "__main__":
    unittest.main()
