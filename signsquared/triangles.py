"""Triangles of squares."""

from signsquared.errors import InvalidTriangle
from signsquared.helpers import MOST_SIDES, are_ascending, are_numbers, length_between
from signsquared.squares import check_square


def triangle(square):
    """The triangle of a square."""
    check_square(square)
    sums, rows = (0,) * len(square), []
    for row in square:
        sums = tuple([come + sign for come, sign in zip(sums, row)])
        rows.append(tuple([column for column, come in enumerate(sums) if come == 1]))
    return tuple(rows)


def lies_between(row, below):
    """Whether each integer of a row lies between the two next to it below, or is one of them."""
    return all([low <= middle <= high for low, middle, high in zip(below, row, below[1:])])


def is_triangle(value):
    """Whether any value is the triangle of some square."""
    if not length_between(value, 1, MOST_SIDES):
        return False
    last = len(value) - 1
    if not all([are_numbers(row, at + 1, 0, last) and are_ascending(row) for at, row in enumerate(value)]):
        return False
    return all([lies_between(row, below) for row, below in zip(value, value[1:])])


def square_by_triangle(value):
    """The square whose triangle this is."""
    if not is_triangle(value):
        raise InvalidTriangle("this is no triangle of a square")
    columns = range(len(value))
    sums = [(0,) * len(value)] + [tuple([1 if column in row else 0 for column in columns]) for row in value]
    return tuple([
        tuple([below - above for above, below in zip(upper, lower)])
        for upper, lower in zip(sums, sums[1:])
    ])
