"""Layings counted, and tables condensed."""

from math import comb

from signsquared.errors import InvalidTable
from signsquared.floors import check_size
from signsquared.helpers import are_rows, check_number, check_sides, fraction, length_between, power

MOST_ROWS = 8
MOST_ENTRY = 99


def is_table(value):
    """Whether any value is a table."""
    return length_between(value, 1, MOST_ROWS) and are_rows(value, len(value), len(value), 1, MOST_ENTRY)


def times_one_and(counts, step):
    """The coefficients of a polynomial, times 1 and the power of a step, added."""
    gap = (0,) * step
    return tuple([one + other for one, other in zip(counts + gap, gap + counts)])


def entry_behind(four, amid, share):
    """The fraction that comes of four neighbouring ones, in order, and of the one amid them."""
    first, second, third, fourth = four
    straight = first[0] * fourth[0] * second[1] * third[1]
    aside = second[0] * third[0] * first[1] * fourth[1]
    below = first[1] * fourth[1] * second[1] * third[1]
    return fraction((straight + share * aside) * amid[1], below * amid[0])


def table_behind(ahead, newest, share):
    """The table of one row and column fewer than the newest one."""
    places = range(len(newest) - 1)
    return [
        [entry_behind(newest[at][to:to + 2] + newest[at + 1][to:to + 2], ahead[at + 1][to + 1], share) for to in places]
        for at in places
    ]


def count_floor(size):
    """How many layings the floor of a size from 1 to 60 has."""
    check_size(size, 1, 60)
    return power(2, size * (size + 1) // 2)


def count_flat(size, many):
    """How many layings of the floor of a size from 1 to 60 have so many flat dominoes."""
    check_size(size, 1, 60)
    check_number(many, 0, 10000)
    return 0 if many & 1 else comb(size * (size + 1) // 2, many // 2)


def rise_counts(size):
    """The tuple of the numbers of layings with the rise 0, 1 and so on."""
    check_size(size)
    counts = (1,)
    for step in range(size):
        for _ in range(size - step):
            counts = times_one_and(counts, 2 * step + 1)
    return counts


def condensed(table, share):
    """A table condensed with a share, a fraction."""
    if not is_table(table):
        raise InvalidTable("this is no table")
    check_number(share, 1, MOST_ENTRY)
    ahead = [[(1, 1)] * (len(table) + 1)] * (len(table) + 1)
    newest = [[(entry, 1) for entry in row] for row in table]
    while len(newest) > 1:
        behind = table_behind(ahead, newest, share)
        ahead, newest = newest, behind
    return newest[0][0]


def share_sum(sides, share):
    """What the table of ones of so many sides comes to, condensed."""
    check_sides(sides)
    check_number(share, 1, MOST_ENTRY)
    return power(share + 1, sides * (sides - 1) // 2)
