"""Sums over all squares with powers of their minuses and overtakings, and what divides the number of squares."""

from math import comb, factorial

from signsquared.errors import InvalidPrime
from signsquared.helpers import check_at_most, check_column, check_number, check_sides, is_between, multiplied, power
from signsquared.signspreads import MOST_BIG, row_minuses, row_overtakings
from signsquared.squarelists import count_squares, sum_of_worths

MOST_SUMMED = 40
MOST_FACTOR = 1000
MOST_MODULUS = 1000000000000
MOST_PRIME = 997


def check_factor(number):
    """Raise InvalidNumber unless this is a number whose powers are summed."""
    check_number(number, -MOST_FACTOR, MOST_FACTOR)


def threes_sum(sides):
    """The sum of 3 to the power of the minuses over all squares, by the product that is known for it."""
    half = sides // 2
    tops = multiplied([factorial(3 * at - 1) for at in range(1, half + 1)])
    if sides & 1:
        belows = multiplied([factorial(half + at) for at in range(1, half + 1)])
        return power(3, half * (half + 1)) * tops * tops // (belows * belows)
    belows = multiplied([factorial(half + at - 1) for at in range(1, half + 1)])
    top = power(3, half * half - 1) * factorial(half - 1) * tops * tops
    return top // (factorial(3 * half - 1) * belows * belows)


def is_power_of_two(number):
    """Whether an integer from 1 on is a power of 2."""
    return number & (number - 1) == 0


def is_prime(number):
    """Whether an integer from 2 on is a prime."""
    return all([number % divisor != 0 for divisor in range(2, number)])


def power_in_factorial(number, prime):
    """How often a prime divides the factorial of a number."""
    times, rest = 0, number // prime
    while rest > 0:
        times = times + rest
        rest = rest // prime
    return times


def sum_by(sides, number):
    """The sum by an integer over all squares of 1 to 40 sides."""
    check_sides(sides, MOST_SUMMED)
    check_factor(number)
    if number == 1:
        return count_squares(sides)
    if number == 2:
        return power(2, sides * (sides - 1) // 2)
    if number == 3:
        return threes_sum(sides)
    check_at_most(sides, 7)

    def worth(index, state, row):
        return power(number, row_minuses(state, row)[0])

    return sum_of_worths(sides, worth)


def twos_first(sides, column):
    """The sum by 2 over the squares of 1 to 40 sides with the first row's one at a column."""
    check_sides(sides, MOST_SUMMED)
    check_column(sides, column)
    return power(2, (sides - 1) * (sides - 2) // 2) * comb(sides - 1, column)


def sum_by_two(sides, number, other):
    """The sum by two integers over all squares of at most 6 sides."""
    check_sides(sides, MOST_SUMMED)
    check_factor(number)
    check_factor(other)
    check_at_most(sides, 6)

    def worth(index, state, row):
        return power(number, row_overtakings(state, row)[0]) * power(other, row_minuses(state, row)[0])

    return sum_of_worths(sides, worth)


def twos_rest(sides, modulus):
    """What the sum by 2 over all squares of 1 to 10 ** 30 sides leaves by a modulus."""
    check_sides(sides, MOST_BIG)
    check_number(modulus, 1, MOST_MODULUS)
    rest, factor, times = 1, 2, sides * (sides - 1) // 2
    while times > 0:
        if times & 1:
            rest = rest * factor % modulus
        factor = factor * factor % modulus
        times = times >> 1
    return rest % modulus


def is_count_odd(sides):
    """Whether the number of squares of 1 to 10 ** 30 sides is odd."""
    check_sides(sides, MOST_BIG)
    return is_power_of_two(3 * sides + 1) or is_power_of_two(3 * sides - 1)


def count_power(sides, prime):
    """How often a prime up to 997 divides the number of squares of 1 to 500 sides."""
    check_sides(sides, 500)
    if not is_between(prime, 2, MOST_PRIME) or not is_prime(prime):
        raise InvalidPrime("this is no prime up to 997")
    above = sum([power_in_factorial(3 * at + 1, prime) for at in range(sides)])
    return above - sum([power_in_factorial(sides + at, prime) for at in range(sides)])
