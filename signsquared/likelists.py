"""Lists of squares that are like themselves, and squares taken for one."""

from signsquared.helpers import check_at_most, check_sides
from signsquared.likemoves import check_lot, stays_by, staying_moves
from signsquared.squarelists import list_squares

MOVE_COUNT = 8


def squares_like(sides, lot):
    """The ascending list of all squares of at most 6 sides that are like themselves by a lot."""
    check_sides(sides)
    check_lot(lot)
    check_at_most(sides, 6)
    return [square for square in list_squares(sides) if stays_by(square, lot)]


def count_like(sides, lot):
    """How many squares of at most 6 sides are like themselves by a lot."""
    return len(squares_like(sides, lot))


def told_cells(sides, lot):
    """The ascending list of the pairs (cell, integer) in which all squares like themselves by a lot are alike."""
    some = squares_like(sides, lot)
    if not some:
        return []
    cells = [(row, column) for row in range(sides) for column in range(sides)]
    return [
        ((row, column), some[0][row][column]) for row, column in cells
        if all([square[row][column] == some[0][row][column] for square in some])
    ]


def count_looks(sides):
    """How many squares of at most 6 sides there are, those to which moves lead from one another taken for one."""
    check_sides(sides)
    check_at_most(sides, 6)
    # Moves lead a square to as many squares as all moves there are, divided by those that lead it to itself.
    return sum([len(staying_moves(square)) for square in list_squares(sides)]) // MOVE_COUNT
