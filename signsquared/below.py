"""Which squares are below which, meets and joins, and ways up."""

from signsquared.heights import differs_around, height_sum, height_table, hollow_points, inner_points, table_square
from signsquared.heights import table_with
from signsquared.helpers import check_at_most
from signsquared.squarelists import squares
from signsquared.squares import check_two


def table_below(low, high):
    """Whether no height of the one table is greater than that of the other one at the same point."""
    return all([one <= other for row, further in zip(low, high) for one, other in zip(row, further)])


def least_rows(lots):
    """For each lot of rows of heights the row of the least one in each place."""
    return tuple([tuple([min(column) for column in zip(*rows)]) for rows in lots])


def greatest_rows(lots):
    """For each lot of rows of heights the row of the greatest one in each place."""
    return tuple([tuple([max(column) for column in zip(*rows)]) for rows in lots])


def lesser_table(one, other):
    """The lesser ones of two tables' heights, point by point."""
    return least_rows(list(zip(one, other)))


def greater_table(one, other):
    """The greater ones of two tables' heights, point by point."""
    return greatest_rows(list(zip(one, other)))


def raisable_points(table, goal):
    """The ascending list of all hollows of heights that are less than those of a goal there."""
    return [(row, column) for row, column in hollow_points(table) if table[row][column] < goal[row][column]]


def first_raisable(table, goal):
    """The first hollow of heights that is less than that of a goal there, or None if there is none."""
    for row, column in inner_points(len(table) - 1):
        if table[row][column] < goal[row][column] and differs_around(table, (row, column), 1):
            return row, column
    return None


def is_below(one, other):
    """Whether the one square is below the other one."""
    check_two(one, other)
    return table_below(height_table(one), height_table(other))


def below_paper(one, other):
    """The first point at which a height of the one is greater, or None."""
    check_two(one, other)
    low, high = height_table(one), height_table(other)
    for row, column in inner_points(len(one)):
        if low[row][column] > high[row][column]:
            return row, column
    return None


def meet(one, other):
    """The greatest square that is below both."""
    check_two(one, other)
    return table_square(lesser_table(height_table(one), height_table(other)))


def join(one, other):
    """The least square that both are below."""
    check_two(one, other)
    return table_square(greater_table(height_table(one), height_table(other)))


def way_up(one, other):
    """A tuple of points whose raisings lead from the one to the other one, or None if it is not below."""
    check_two(one, other)
    table, goal = height_table(one), height_table(other)
    if not table_below(table, goal):
        return None
    way = []
    while table != goal:
        # Of all points that are too low, one of the least height is a hollow, so there always is one.
        point = first_raisable(table, goal)
        way.append(point)
        table = table_with(table, point, 2)
    return tuple(way)


def squares_between(one, other):
    """The ascending list of all squares above the one and below the other one."""
    check_two(one, other)
    check_at_most(len(one), 4)
    low, high = height_table(one), height_table(other)
    told = [(some, height_table(some)) for some in squares(len(one))]
    return [some for some, table in told if table_below(low, table) and table_below(table, high)]


def count_ways_up(one, other):
    """How many tuples of points such as `way_up` tells there are."""
    check_two(one, other)
    check_at_most(len(one), 4)
    start, goal = height_table(one), height_table(other)
    if not table_below(start, goal):
        return 0
    ways = {start: 1}
    for _ in range((height_sum(goal) - height_sum(start)) // 2):
        ways = raised_ways(ways, goal)
    return ways[goal]


def raised_ways(ways, goal):
    """In how many ways which tables are reached by one raising more, below a goal."""
    further = {}
    for table, many in ways.items():
        for point in raisable_points(table, goal):
            upper = table_with(table, point, 2)
            further[upper] = further.get(upper, 0) + many
    return further
