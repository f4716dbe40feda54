"""Heights of squares, hollows and hills."""

from signsquared.errors import InvalidHeights
from signsquared.helpers import MOST_SIDES, are_rows, check_point, is_pair, length_between
from signsquared.squares import check_square, unit_square


def next_heights(ahead, row):
    """The heights behind a row, told by those ahead of it."""
    come = 0
    told = [ahead[0] + 1]
    for sign, height in zip(row, ahead[1:]):
        come = come + sign
        told.append(height + 1 - 2 * come)
    return tuple(told)


def height_table(square):
    """The heights of what is known to be a square."""
    table = [tuple(range(len(square) + 1))]
    for row in square:
        table.append(next_heights(table[-1], row))
    return tuple(table)


def table_square(table):
    """The square of what is known to be heights."""
    sides = range(len(table) - 1)
    return tuple([tuple([cell_of(table, row, column) for column in sides]) for row in sides])


def cell_of(table, row, column):
    """The integer in a cell, told by the heights at its four corners."""
    upper, lower = table[row], table[row + 1]
    return (upper[column + 1] + lower[column] - upper[column] - lower[column + 1]) // 2


def steps_by_one(numbers):
    """Whether each two neighbouring numbers differ by 1."""
    return all([abs(one - other) == 1 for one, other in zip(numbers, numbers[1:])])


def is_heights(value):
    """Whether any value is the heights of some square."""
    if not length_between(value, 2, MOST_SIDES + 1) or not are_rows(value, len(value), len(value), 0, len(value) - 1):
        return False
    ascending = tuple(range(len(value)))
    columns = tuple(zip(*value))
    if (value[0], value[-1]) != (ascending, ascending[::-1]):
        return False
    if (columns[0], columns[-1]) != (ascending, ascending[::-1]):
        return False
    return all([steps_by_one(numbers) for numbers in value + columns])


def inner_points(sides):
    """The ascending list of all inner points of so many sides."""
    return [(row, column) for row in range(1, sides) for column in range(1, sides)]


def differs_around(table, point, by):
    """Whether all four neighbours of an inner point have a height more by so much."""
    row, column = point
    height = table[row][column] + by
    around = (table[row - 1][column], table[row + 1][column], table[row][column - 1], table[row][column + 1])
    return around == (height, height, height, height)


def hollow_points(table):
    """The ascending list of all hollows of heights."""
    return [point for point in inner_points(len(table) - 1) if differs_around(table, point, 1)]


def hill_points(table):
    """The ascending list of all hills of heights."""
    return [point for point in inner_points(len(table) - 1) if differs_around(table, point, -1)]


def table_with(table, point, by):
    """Heights with the one at a point more by so much."""
    row, column = point
    changed = table[row][:column] + (table[row][column] + by,) + table[row][column + 1:]
    return table[:row] + (changed,) + table[row + 1:]


def height_sum(table):
    """What all heights come to."""
    return sum([sum(row) for row in table])


def heights(square):
    """The heights of a square."""
    check_square(square)
    return height_table(square)


def square_by_heights(value):
    """The square whose heights these are."""
    if not is_heights(value):
        raise InvalidHeights("this is no heights of a square")
    return table_square(value)


def hollows(square):
    """The ascending list of all hollows."""
    return hollow_points(heights(square))


def hills(square):
    """The ascending list of all hills."""
    return hill_points(heights(square))


def leaning_points(square):
    """The ascending list of all hollows and hills."""
    return sorted(hollows(square) + hills(square))


def is_leaning(square, value):
    """Whether any value is a hollow or a hill of a square."""
    return is_pair(value) and value in leaning_points(square)


def raised(square, point):
    """The square with a hollow raised."""
    table = heights(square)
    check_point(point, hollow_points(table))
    return table_square(table_with(table, point, 2))


def lowered(square, point):
    """The square with a hill lowered."""
    table = heights(square)
    check_point(point, hill_points(table))
    return table_square(table_with(table, point, -2))


def rise(square):
    """The number of raisings by which a square comes of the unit square."""
    table = heights(square)
    return (height_sum(table) - height_sum(height_table(unit_square(len(square))))) // 2
