"""How many squares of many sides are like themselves by one move."""

from math import comb

from signsquared.errors import InvalidMove
from signsquared.helpers import check_sides, multiplied
from signsquared.squarelists import MOST_COUNTED, count_squares

COUNTED = ("half", "mirrored", "quarter", "upended")


def squares_twice(sides):
    """The number of squares of so many sides, as a factor twice; 1 for no sides."""
    return count_squares(sides) * count_squares(sides) if sides > 0 else 1


def half_count(sides):
    """How many squares of so many sides are like themselves by "half"."""
    pairs = sides // 2
    if sides & 1:
        tops = [4 * comb(3 * at, at) * comb(3 * at, at) for at in range(1, pairs + 1)]
        return multiplied(tops) // multiplied([3 * comb(2 * at, at) * comb(2 * at, at) for at in range(1, pairs + 1)])
    tops = multiplied([3 * at + 2 for at in range(pairs)])
    return squares_twice(pairs) * tops // multiplied([3 * at + 1 for at in range(pairs)])


def mirrored_count(sides):
    """How many squares of so many sides are like themselves by "mirrored"."""
    if sides & 1 == 0:
        return 0
    pairs = sides // 2
    tops = multiplied([comb(6 * at - 2, 2 * at) for at in range(1, pairs + 1)])
    return tops // multiplied([2 * comb(4 * at - 1, 2 * at) for at in range(1, pairs + 1)])


def quarter_count(sides):
    """How many squares of so many sides are like themselves by "quarter"."""
    if sides % 4 == 2:
        return 0
    # Of 4 * n sides half are 2 * n; of 4 * n + 1 and of 4 * n - 1 sides those told are 2 * n + 1 and 2 * n - 1.
    size = (sides + 1) // 4
    return half_count(sides - 2 * size) * squares_twice(size)


def count_by_move(sides, move):
    """How many squares of 1 to 60 sides are like themselves by "half", "mirrored", "quarter" or "upended"."""
    check_sides(sides, MOST_COUNTED)
    if move not in COUNTED:
        raise InvalidMove("this is none of the four moves")
    if move == "half":
        return half_count(sides)
    # Upended and mirrored squares come of one another by a quarter, so there are as many of both.
    return quarter_count(sides) if move == "quarter" else mirrored_count(sides)
