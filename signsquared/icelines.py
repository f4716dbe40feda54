"""Line weights of squares, line sums and line quotients."""

from signsquared.errors import InvalidLines
from signsquared.helpers import MOST_SIDES, are_numbers, check_at_most, check_number, determinant, length_between
from signsquared.helpers import multiplied
from signsquared.ice import cell_sorts, row_sorts
from signsquared.squarelists import sum_of_worths
from signsquared.squares import check_square


def check_lines(rows, columns):
    """Raise InvalidLines unless these are line numbers, as many for the rows as for the columns."""
    for numbers in (rows, columns):
        if not length_between(numbers, 1, MOST_SIDES) or not are_numbers(numbers, len(numbers), -1000, 1000):
            raise InvalidLines("this is no line numbers")
    if len(rows) != len(columns):
        raise InvalidLines("there are not as many numbers of rows as of columns")


def check_step(step):
    """Raise InvalidNumber unless this is a step."""
    check_number(step, -1000, 1000)


def check_unlike_lines(rows, columns):
    """Raise InvalidLines if two numbers of rows, or two of columns, are the same."""
    for numbers in (rows, columns):
        if len(set(numbers)) != len(numbers):
            raise InvalidLines("two of these numbers are the same")


def cell_worth(sort, apart, step):
    """What a cell is worth whose row's number is more by `apart` than its column's."""
    if sort in ("none", "both"):
        return apart + step
    return apart if sort in ("across", "down") else step


def row_worth(sorts, number, columns, step):
    """What the cells of a row with this number are worth, multiplied."""
    return multiplied([cell_worth(sort, number - column, step) for sort, column in zip(sorts, columns)])


def quotient_row(number, columns, step):
    """The row of the line quotient's table for a row's number."""
    worths = [(number - column) * (number - column + step) for column in columns]
    return [multiplied(worths[:at] + worths[at + 1:]) for at in range(len(worths))]


def differences(numbers):
    """The list of each number less each of those behind it."""
    return [number - other for at, number in enumerate(numbers) for other in numbers[at + 1:]]


def line_weight(square, rows, columns, step):
    """The line weight of a square."""
    check_square(square)
    check_lines(rows, columns)
    if len(rows) != len(square):
        raise InvalidLines("there are not as many numbers as sides")
    check_step(step)
    return multiplied([row_worth(sorts, number, columns, step) for sorts, number in zip(cell_sorts(square), rows)])


def line_sum(rows, columns, step):
    """The line weights of all squares of at most 6 sides, added."""
    check_lines(rows, columns)
    check_step(step)
    check_at_most(len(rows), 6)

    def worth(index, state, row):
        return row_worth(row_sorts(state, row), rows[index], columns, step)

    return sum_of_worths(len(rows), worth)


def line_quotient(rows, columns, step):
    """The quotient that the line sum is, for rows and columns without two equal numbers."""
    check_lines(rows, columns)
    check_step(step)
    check_unlike_lines(rows, columns)
    table = [quotient_row(number, columns, step) for number in rows]
    steps = multiplied([step for _ in rows])
    # The columns' differences are taken the other way round than the rows'.
    below = multiplied(differences(rows)) * multiplied([-apart for apart in differences(columns)])
    return steps * determinant(table) // below
