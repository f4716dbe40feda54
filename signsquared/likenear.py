"""The nearest squares that are like themselves by a lot of moves."""

from signsquared.below import greatest_rows, least_rows
from signsquared.errors import InvalidLot
from signsquared.heights import height_table, table_square
from signsquared.helpers import check_at_most, sum_apart
from signsquared.likemoves import check_lot, is_lot, moves_by, stays_by, table_moved
from signsquared.squarelists import list_squares
from signsquared.squares import check_square, check_two

KEEPING = ("half", "slanted", "tipped")


def check_keeping(lot):
    """Raise InvalidLot unless this is a keeping lot."""
    if not is_lot(lot) or not all([move in KEEPING for move in lot]):
        raise InvalidLot("this is no keeping lot")


def rows_by(square, lot):
    """For each row of points the lot of its heights in all squares to which the moves that a lot makes lead."""
    tables = [height_table(table_moved(square, move)) for move in moves_by(lot)]
    return list(zip(*tables))


def steps_apart(one, other):
    """The least number of raisings and lowerings between what is known to be two squares of as many sides."""
    return sum_apart(height_table(one), height_table(other)) // 2


def like_below(square, lot):
    """The greatest one of the squares below a square that are like themselves by a keeping lot."""
    check_square(square)
    check_keeping(lot)
    return table_square(least_rows(rows_by(square, lot)))


def like_above(square, lot):
    """The least one of the squares above a square that are like themselves by a keeping lot."""
    check_square(square)
    check_keeping(lot)
    return table_square(greatest_rows(rows_by(square, lot)))


def apart_squares(one, other):
    """How far two squares are apart."""
    check_two(one, other)
    return steps_apart(one, other)


def nearest_like(square, lot):
    """The pair of how far a square of at most 5 sides is from those like themselves by a lot, and of the nearest ones.

    None, if there are none.
    """
    check_square(square)
    check_lot(lot)
    check_at_most(len(square), 5)
    some = [other for other in list_squares(len(square)) if stays_by(other, lot)]
    if not some:
        return None
    least = min([steps_apart(square, other) for other in some])
    return least, [other for other in some if steps_apart(square, other) == least]
