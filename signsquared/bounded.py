"""Squares between bounds of their heights."""

from signsquared.errors import InvalidBounds
from signsquared.heights import table_square
from signsquared.helpers import are_numbers, check_sides, is_between, is_long, length_between

MOST_BOUNDS = 40
MOST_HEIGHT = 40


def is_bound(sides, value):
    """Whether any value is a bound of so many sides."""
    if not is_long(value, 3) or not are_numbers(value[:2], 2, 0, sides):
        return False
    return is_between(value[2], -MOST_HEIGHT, MOST_HEIGHT)


def check_bounds(sides, bounds):
    """Raise InvalidBounds unless these are bounds of so many sides."""
    if not length_between(bounds, 0, MOST_BOUNDS) or not all([is_bound(sides, bound) for bound in bounds]):
        raise InvalidBounds("this is no bounds of so many sides")


def least_height(row, column):
    """The least height of any square at a point."""
    return abs(row - column)


def greatest_height(sides, row, column):
    """The greatest height of any square of so many sides at a point."""
    return min(row + column, 2 * sides - row - column)


def step_up(bound):
    """A bound from below at the least height from its own on that is even or odd as all heights are at its point."""
    row, column, height = bound
    return row, column, height + (row + column + height) % 2


def step_down(bound):
    """A bound from above at the greatest height up to its own that is even or odd as all heights are at its point."""
    row, column, height = bound
    return row, column, height - (row + column + height) % 2


def is_too_high(sides, bound):
    """Whether no square has at least the height of a bound."""
    row, column, height = bound
    return height > greatest_height(sides, row, column)


def is_too_low(bound):
    """Whether no square has at most the height of a bound."""
    row, column, height = bound
    return height < least_height(row, column)


def forced_up(bound, row, column):
    """The height that a bound from below forces at a point, as neighbours differ by 1."""
    at, to, height = bound
    return height - abs(row - at) - abs(column - to)


def forced_down(bound, row, column):
    """The height that a bound from above forces at a point."""
    at, to, height = bound
    return height + abs(row - at) + abs(column - to)


def lowest_table(sides, lows):
    """The heights of the square that is below all others that have at least the heights of some bounds."""
    points, bounds = list(range(sides + 1)), [step_up(low) for low in lows]
    return tuple([
        tuple([max([least_height(row, to)] + [forced_up(bound, row, to) for bound in bounds]) for to in points])
        for row in points
    ])


def highest_table(sides, highs):
    """The heights of the square that all others are below that have at most the heights of some bounds."""
    points, bounds = list(range(sides + 1)), [step_down(high) for high in highs]
    return tuple([
        tuple([
            min([greatest_height(sides, row, to)] + [forced_down(bound, row, to) for bound in bounds])
            for to in points
        ])
        for row in points
    ])


def first_clash(sides, lows, highs):
    """A pair of an index of bounds from below and of one from above, perhaps None, that clash, or None."""
    for index, low in enumerate(lows):
        if is_too_high(sides, low):
            return index, None
    for other, high in enumerate(highs):
        if is_too_low(high):
            return None, other
        for index, low in enumerate(lows):
            if forced_up(step_up(low), high[0], high[1]) > high[2]:
                return index, other
    return None


def least_above(sides, bounds):
    """The square with at least these heights that is below all others that have them, or None."""
    check_sides(sides)
    check_bounds(sides, bounds)
    if any([is_too_high(sides, bound) for bound in bounds]):
        return None
    return table_square(lowest_table(sides, bounds))


def greatest_under(sides, bounds):
    """The square with at most these heights that all others are below that have them, or None."""
    check_sides(sides)
    check_bounds(sides, bounds)
    if any([is_too_low(bound) for bound in bounds]):
        return None
    return table_square(highest_table(sides, bounds))


def bounds_go(sides, lows, highs):
    """Whether some square has at least the former and at most the latter heights."""
    check_sides(sides)
    check_bounds(sides, lows)
    check_bounds(sides, highs)
    return first_clash(sides, lows, highs) is None


def bounds_paper(sides, lows, highs):
    """A pair of indices of bounds that no square keeps, each perhaps None, or None if some square keeps all."""
    check_sides(sides)
    check_bounds(sides, lows)
    check_bounds(sides, highs)
    return first_clash(sides, lows, highs)
