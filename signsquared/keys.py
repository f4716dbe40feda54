"""Keys: the squares that are no joins of others; and the orders next to a square."""

from signsquared.below import greater_table, table_below
from signsquared.errors import InvalidNumber, InvalidOrders
from signsquared.heights import height_table, heights, inner_points, table_square
from signsquared.helpers import check_at_most, check_point, check_sides, is_between, length_between
from signsquared.squarelists import squares
from signsquared.squares import check_square, is_order, last_square, order_square, square_order


def key_order(sides, point, height):
    """The order of the least square that has at least this height at a point."""
    # Heights of neighbours differ by 1, so this bound cannot be undercut; and it is one of heights itself.
    row, column = point
    points = range(sides + 1)
    table = [
        tuple([max(abs(i - j), height - abs(i - row) - abs(j - column)) for j in points])
        for i in points
    ]
    return square_order(table_square(tuple(table)))


def keys_under(table):
    """The ascending list of the orders of all keys below a square, told by its heights."""
    sides = len(table) - 1
    return sorted([
        key_order(sides, (row, column), height)
        for row, column in inner_points(sides)
        for height in range(abs(row - column) + 2, table[row][column] + 1, 2)
    ])


def order_tables(sides):
    """The ascending list of the pairs of each order and its heights."""
    told = [(square_order(some), height_table(some)) for some in squares(sides)]
    return sorted([(order, table) for order, table in told if order is not None])


def keys(sides):
    """The ascending list of the orders of all keys."""
    check_sides(sides)
    return keys_under(height_table(last_square(sides)))


def key_with(sides, point, height):
    """The order of the least square with at least a height at an inner point."""
    check_sides(sides)
    check_point(point, inner_points(sides))
    row, column = point
    least, most = abs(row - column), min(row + column, 2 * sides - row - column)
    if not is_between(height, least + 1, most) or (height - least) & 1:
        raise InvalidNumber("no square but the unit one has this height there")
    return key_order(sides, point, height)


def keys_below(square):
    """The ascending list of the orders of all keys below a square."""
    return keys_under(heights(square))


def are_orders(value):
    """Whether any value is a tuple of 1 to 60 orders of as many sides."""
    if not length_between(value, 1, 60) or not all([is_order(order) for order in value]):
        return False
    return all([len(order) == len(value[0]) for order in value])


def joined_orders(value):
    """The join of the squares of a tuple of orders."""
    if not are_orders(value):
        raise InvalidOrders("this is no tuple of 1 to 60 orders of as many sides")
    joined = height_table(order_square(value[0]))
    for order in value[1:]:
        joined = greater_table(joined, height_table(order_square(order)))
    return table_square(joined)


def orders_under(square):
    """The ascending list of the orders below a square that are below no other order below it."""
    check_square(square)
    check_at_most(len(square), 5)
    goal = height_table(square)
    lower = [(order, table) for order, table in order_tables(len(square)) if table_below(table, goal)]
    return [
        order for order, table in lower
        if not any([other != order and table_below(table, above) for other, above in lower])
    ]


def orders_over(square):
    """The ascending list of the orders above a square that no other order above it is below."""
    check_square(square)
    check_at_most(len(square), 5)
    goal = height_table(square)
    upper = [(order, table) for order, table in order_tables(len(square)) if table_below(goal, table)]
    return [
        order for order, table in upper
        if not any([other != order and table_below(beneath, table) for other, beneath in upper])
    ]
