"""Squares counted by their minuses, overtakings and ends."""

from math import comb, factorial

from signsquared.helpers import check_at_most, check_column, check_sides
from signsquared.squarelists import tally_squares

MOST_BIG = 1000000000000000000000000000000


def row_minuses(state, row):
    """How many minuses a row has, as a tuple of one number."""
    return (row.count(-1),)


def row_overtakings(state, row):
    """What the overtakings of the integers of a row and of those above come to, as a tuple of one number."""
    return (sum([sign * sum(state[column + 1:]) for column, sign in enumerate(row)]),)


def row_both(state, row):
    """The pair of the minuses and of the overtakings of a row behind a state."""
    return row_minuses(state, row) + row_overtakings(state, row)


def row_first_minuses(state, row):
    """The pair of the column of the first row's one, 0 for other rows, and of the minuses."""
    return (row.index(1) if sum(state) == 0 else 0, row.count(-1))


def row_ends(state, row):
    """The pair of the columns of the first row's and of the last row's one, 0 for other rows."""
    first = row.index(1) if sum(state) == 0 else 0
    return first, row.index(1) if sum(state) == len(row) - 1 else 0


def most_overtakings(sides):
    """The greatest number of overtakings of a square."""
    return sides * (sides - 1) // 2


def table_of(tally, rows, columns):
    """The tuple of tuples of what a tally has for each pair, with so many rows and columns."""
    return tuple([tuple([tally.get((row, column), 0) for column in range(columns)]) for row in range(rows)])


def minus_spread(sides):
    """The spread of minuses of at most 7 sides."""
    check_sides(sides)
    check_at_most(sides, 7)
    tally = tally_squares(sides, (0,), row_minuses)
    return tuple([tally.get((many,), 0) for many in range(most_minuses(sides) + 1)])


def overtaking_spread(sides):
    """The spread of overtakings of at most 7 sides."""
    check_sides(sides)
    check_at_most(sides, 7)
    tally = tally_squares(sides, (0,), row_overtakings)
    return tuple([tally.get((many,), 0) for many in range(most_overtakings(sides) + 1)])


def spread_table(sides):
    """The spread table of at most 6 sides."""
    check_sides(sides)
    check_at_most(sides, 6)
    tally = tally_squares(sides, (0, 0), row_both)
    return table_of(tally, most_minuses(sides) + 1, most_overtakings(sides) + 1)


def first_minus_table(sides):
    """For each column, how many squares of at most 6 sides with the first row's one there have how many minuses."""
    check_sides(sides)
    check_at_most(sides, 6)
    return table_of(tally_squares(sides, (0, 0), row_first_minuses), sides, most_minuses(sides) + 1)


def ends_table(sides):
    """The ends table of at most 8 sides."""
    check_sides(sides)
    check_at_most(sides, 8)
    return table_of(tally_squares(sides, (0, 0), row_ends), sides, sides)


def count_ends(sides, column, last):
    """How many squares of at most 8 sides have the first row's one and the last row's one at these columns."""
    check_sides(sides)
    check_column(sides, column)
    check_column(sides, last)
    return ends_table(sides)[column][last]


def most_minuses(sides):
    """The greatest number of minuses of a square of 1 to 10 ** 30 sides."""
    check_sides(sides, MOST_BIG)
    return (sides - 1) * (sides - 1) // 4


def count_one_minus(sides):
    """How many squares of 1 to 200 sides have just one minus."""
    check_sides(sides, 200)
    return factorial(sides) * comb(sides, 3) // 6
