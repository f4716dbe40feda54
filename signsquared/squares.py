"""Squares of signs, their orders, minuses and overtakings."""

from signsquared.errors import InvalidOrder, InvalidSquare, Unlike
from signsquared.helpers import MOST_SIDES, are_numbers, are_rows, check_sides, length_between


def alternates(signs):
    """Whether 1 and -1 stand by turns among signs, from a 1 to a 1."""
    come = 0
    for sign in signs:
        come = come + sign
        if not 0 <= come <= 1:
            return False
    return come == 1


def is_square(value):
    """Whether any value is a square."""
    if not length_between(value, 1, MOST_SIDES) or not are_rows(value, len(value), len(value), -1, 1):
        return False
    return all([alternates(row) for row in value]) and all([alternates(column) for column in zip(*value)])


def is_order(value):
    """Whether any value is an order of 1 to 12 sides."""
    if not length_between(value, 1, MOST_SIDES) or not are_numbers(value, len(value), 0, len(value) - 1):
        return False
    return sorted(value) == list(range(len(value)))


def check_square(square):
    """Raise InvalidSquare unless this is a square."""
    if not is_square(square):
        raise InvalidSquare("this is no square")


def check_order(order):
    """Raise InvalidOrder unless this is an order."""
    if not is_order(order):
        raise InvalidOrder("this is no order")


def check_two(one, other):
    """Raise InvalidSquare or Unlike unless these are two squares of as many sides."""
    check_square(one)
    check_square(other)
    if len(one) != len(other):
        raise Unlike("these squares have not as many sides")


def order_square(order):
    """The square of an order."""
    check_order(order)
    columns = range(len(order))
    return tuple([tuple([1 if column == at else 0 for column in columns]) for at in order])


def square_order(square):
    """The order whose square it is, or None."""
    if minuses(square):
        return None
    return tuple([row.index(1) for row in square])


def unit_square(sides):
    """The square of the ascending order."""
    check_sides(sides)
    return order_square(tuple(range(sides)))


def last_square(sides):
    """The square of the descending order."""
    check_sides(sides)
    return order_square(tuple(range(sides - 1, -1, -1)))


def cells_with(square, sign):
    """The ascending list of the pairs (row, column) at which a square has a sign."""
    sides = range(len(square))
    return [(row, column) for row in sides for column in sides if square[row][column] == sign]


def minuses(square):
    """The ascending list of the pairs (row, column) of all minuses."""
    check_square(square)
    return cells_with(square, -1)


def overtakings(square):
    """The sum of the products of all integers with those further below and further left."""
    check_square(square)
    sides = range(len(square))
    cells = [(row, column) for row in sides for column in sides if square[row][column] != 0]
    return sum([
        square[row][column] * square[below][left]
        for row, column in cells for below, left in cells
        if below > row and left < column
    ])


def first_column(square):
    """The column of the first row's one."""
    check_square(square)
    return square[0].index(1)


def tipped(square):
    """The square with rows and columns exchanged."""
    check_square(square)
    return tuple(zip(*square))


def mirrored(square):
    """The square with the columns the other way round."""
    check_square(square)
    return tuple([row[::-1] for row in square])


def upended(square):
    """The square with the rows the other way round."""
    check_square(square)
    return square[::-1]
