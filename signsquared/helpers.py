"""Checks and reckonings that several modules share."""

from math import gcd

from signsquared.errors import InvalidColumn, InvalidNumber, InvalidPoint, InvalidSides, TooMany

MOST_SIDES = 12


def is_integer(value):
    """Whether any value is an integer; True and False are none."""
    return isinstance(value, int) and not isinstance(value, bool)


def is_between(value, low, high):
    """Whether any value is an integer from low to high."""
    return is_integer(value) and low <= value <= high


def is_long(value, many):
    """Whether any value is a tuple of so many items."""
    return isinstance(value, tuple) and len(value) == many


def length_between(value, low, high):
    """Whether any value is a tuple of from low to high items."""
    return isinstance(value, tuple) and low <= len(value) <= high


def are_numbers(value, many, low, high):
    """Whether any value is a tuple of so many integers from low to high."""
    return is_long(value, many) and all([is_between(item, low, high) for item in value])


def are_rows(value, many, width, low, high):
    """Whether any value is a tuple of so many tuples of so many integers from low to high."""
    return is_long(value, many) and all([are_numbers(row, width, low, high) for row in value])


def is_pair(value):
    """Whether any value is a pair of integers."""
    return is_long(value, 2) and is_integer(value[0]) and is_integer(value[1])


def are_ascending(items):
    """Whether each item is greater than the one ahead of it."""
    return all([one < other for one, other in zip(items, items[1:])])


def index_tuples(many, size):
    """The ascending list of all ascending tuples of so many indices, the size, of so many things."""
    begun = [()]
    for _ in range(size):
        begun = [some + (at,) for some in begun for at in range(some[-1] + 1 if some else 0, many)]
    return begun


def check_sides(sides, most=MOST_SIDES):
    """Raise InvalidSides unless this is a number of sides."""
    if not is_between(sides, 1, most):
        raise InvalidSides("this is no such number of sides")


def check_column(sides, column):
    """Raise InvalidColumn unless this is a column of so many sides."""
    if not is_between(column, 0, sides - 1):
        raise InvalidColumn("there is no such column")


def check_number(number, low, high):
    """Raise InvalidNumber unless this is an integer from low to high."""
    if not is_between(number, low, high):
        raise InvalidNumber("this is no such number")


def check_count(number):
    """Raise InvalidNumber unless this is an integer from 0 on."""
    if not is_integer(number) or number < 0:
        raise InvalidNumber("this is no integer from 0 on")


def check_point(point, points):
    """Raise InvalidPoint unless this is one of the points."""
    # A pair of True and True equals (1, 1), so being in the list is not enough.
    if not is_pair(point) or point not in points:
        raise InvalidPoint("this is no such point")


def check_any_point(sides, point):
    """Raise InvalidPoint unless this is a point, inner or not, of so many sides."""
    if not are_numbers(point, 2, 0, sides):
        raise InvalidPoint("there is no such point")


def check_at_most(sides, limit):
    """Raise TooMany for more than the limit."""
    if sides > limit:
        raise TooMany(limit)


def multiplied(numbers):
    """The product of numbers, 1 for none."""
    result = 1
    for number in numbers:
        result = result * number
    return result


def sum_apart(table, other):
    """What the numbers of two tables of as many rows and columns differ by, added."""
    return sum([abs(one - further) for row, line in zip(table, other) for one, further in zip(row, line)])


def power(number, times):
    """A number, so many times as a factor; 1 for no times."""
    result, factor, rest = 1, number, times
    while rest > 0:
        if rest & 1:
            result = result * factor
        factor = factor * factor
        rest = rest >> 1
    return result


def fraction(top, below):
    """A fraction above 0 as a pair without a common divisor above 1."""
    common = gcd(top, below)
    return top // common, below // common


def first_row_led(table):
    """The index of the first row that does not begin with 0, or None."""
    for at, row in enumerate(table):
        if row[0] != 0:
            return at
    return None


def determinant(table):
    """The determinant of a table of integers, a list of at least one row."""
    # Each table is divided by the lead of the one ahead, so that all stays in integers.
    rows, sign, ahead = table, 1, 1
    while len(rows) > 1:
        at = first_row_led(rows)
        if at is None:
            return 0
        head = rows[at]
        sign = -sign if at & 1 else sign
        others = rows[:at] + rows[at + 1:]
        rows = [reduced_row(head, row, ahead) for row in others]
        ahead = head[0]
    return sign * rows[0][0]


def reduced_row(head, row, ahead):
    """A row without its first entry, as a step of the determinant leaves it."""
    return [(head[0] * row[at] - row[0] * head[at]) // ahead for at in range(1, len(row))]
