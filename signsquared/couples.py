"""Couples of squares that fit, the layings that they tell, and the squares around and within a square."""

from signsquared.errors import InvalidCouple, InvalidSquare
from signsquared.floors import check_laying
from signsquared.heights import height_table, table_square
from signsquared.helpers import check_at_most
from signsquared.squares import cells_with, check_square

MOST_SIGNS = 8


def great_choices(small, row, column):
    """The list of the heights that squares around one can have at a point, the lesser one first."""
    last = len(small)
    if row in (0, last) or column in (0, last):
        return [min(row + column, 2 * last - row - column)]
    # As neighbouring heights differ by 1, the other two bounds hold wherever these do.
    least = max(small[row - 1][column - 1], small[row][column])
    most = min(small[row - 1][column], small[row][column - 1]) + 1
    return list(range(least, most + 1, 2))


def small_choices(great, row, column):
    """The list of the heights that squares within one can have at a point, the greater one first."""
    least = max(great[row][column + 1], great[row + 1][column]) - 1
    most = min(great[row][column], great[row + 1][column + 1])
    return list(range(least, most + 1, 2))[::-1]


def around_choices(small):
    """The rows of the lists of the heights that squares around one can have, told by the heights of this."""
    points = range(len(small) + 1)
    return [[great_choices(small, row, column) for column in points] for row in points]


def within_choices(great):
    """The rows of the lists of the heights that squares within one can have, told by the heights of this."""
    points = range(len(great) - 1)
    return [[small_choices(great, row, column) for column in points] for row in points]


def chosen(choices, signs):
    """The table that has, of the points with two heights to choose from, those that signs tell, in order."""
    free = [(row, column) for row, line in enumerate(choices) for column, some in enumerate(line) if len(some) == 2]
    told = {point: sign for point, sign in zip(free, signs)}
    return tuple([
        tuple([some[told.get((row, column), 0)] for column, some in enumerate(line)])
        for row, line in enumerate(choices)
    ])


def all_signs(many):
    """The ascending list of all tuples of so many integers 0 or 1."""
    found = [()]
    for _ in range(many):
        found = [signs + (sign,) for signs in found for sign in (0, 1)]
    return found


def tables_fit(small, great):
    """Whether the heights of two squares, the great one with one side more, are those of a couple."""
    return all([
        height in some
        for heights_told, line in zip(small, within_choices(great)) for height, some in zip(heights_told, line)
    ])


def dominoes_at(small, great, row, column):
    """The dominoes that the heights of a couple tell at a point of the small one."""
    height, above, right = small[row][column], row + column - 1, column - row + len(small) - 1
    told = (
        (great[row][column] > height, ((above, right - 1), (above, right))),
        (great[row + 1][column + 1] > height, ((above + 1, right - 1), (above + 1, right))),
        (great[row][column + 1] < height, ((above, right), (above + 1, right))),
        (great[row + 1][column] < height, ((above, right - 1), (above + 1, right - 1))),
    )
    return [domino for lies, domino in told if lies]


def laying_of(small, great):
    """The laying of a couple, told by its heights."""
    points = range(len(small))
    return tuple(sorted([
        domino for row in points for column in points for domino in dominoes_at(small, great, row, column)
    ]))


def couple_tables(size, laying):
    """The pair of the heights of the small and of the great square of a laying."""
    held = {domino: True for domino in laying}
    small, great = [], []
    for row in range(size + 1):
        lesser, greater = [row], [row]
        for column in range(size + 1):
            above, right = row + column - 1, column - row + size
            crossed = ((above, right), (above + 1, right)) in held
            greater.append(lesser[column] - 1 if crossed else lesser[column] + 1)
            crossed = ((above + 1, right), (above + 1, right + 1)) in held
            lesser.append(greater[-1] - 2 if crossed else greater[-1])
        # The last one lies outside of the small square.
        small.append(tuple(lesser[:-1]))
        great.append(tuple(greater))
    great.append(tuple(range(size + 1, -1, -1)))
    return tuple(small), tuple(great)


def do_fit(small, great):
    """Whether two squares fit."""
    check_square(small)
    check_square(great)
    return len(great) == len(small) + 1 and tables_fit(height_table(small), height_table(great))


def floor_laying(small, great):
    """The laying of two squares that fit."""
    if not do_fit(small, great):
        raise InvalidCouple("these squares do not fit")
    return laying_of(height_table(small), height_table(great))


def floor_couple(size, laying):
    """The couple of a laying."""
    check_laying(size, laying)
    small, great = couple_tables(size, laying)
    return table_square(small), table_square(great)


def greats_around(square):
    """The ascending list of all squares around one of at most 11 sides and 8 ones."""
    check_square(square)
    if len(square) > 11:
        raise InvalidSquare("no square lies around one of 12 sides")
    ones = len(cells_with(square, 1))
    check_at_most(ones, MOST_SIGNS)
    choices = around_choices(height_table(square))
    return sorted([table_square(chosen(choices, signs)) for signs in all_signs(ones)])


def smalls_within(square):
    """The ascending list of all squares within one of at least 2 sides and at most 8 minuses."""
    check_square(square)
    if len(square) < 2:
        raise InvalidSquare("no square lies within one of 1 side")
    many = len(cells_with(square, -1))
    check_at_most(many, MOST_SIGNS)
    choices = within_choices(height_table(square))
    return sorted([table_square(chosen(choices, signs)) for signs in all_signs(many)])
