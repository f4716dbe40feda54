"""Ice: the full edges of squares, the sorts of their cells, and turning."""

from signsquared.errors import InvalidIce, InvalidSorts
from signsquared.heights import inner_points
from signsquared.helpers import MOST_SIDES, are_rows, check_point, is_long, length_between
from signsquared.squares import check_square, is_square

SORTS = ("none", "both", "across", "down", "one", "minus")


def sums_along(signs):
    """The tuple of what the first signs come to: none of them, one of them and so on."""
    come, sums = 0, [0]
    for sign in signs:
        come = come + sign
        sums.append(come)
    return tuple(sums)


def lying_square(lying):
    """The rows of integers that lying edges tell."""
    return tuple([tuple([right - left for left, right in zip(row, row[1:])]) for row in lying])


def sort_of(sign, left, above):
    """The sort of a cell with a sign, told by the edges on its left and above it."""
    if sign != 0:
        return "one" if sign == 1 else "minus"
    # A cell without a sign has the same on its left and its right, and the same above and below.
    if left == above:
        return "both" if left == 1 else "none"
    return "across" if left == 1 else "down"


def row_sorts(above, row):
    """The tuple of the sorts of a row's cells, told by the edges above it."""
    left = sums_along(row)
    return tuple([sort_of(sign, before, over) for sign, before, over in zip(row, left, above)])


def is_turnable(lying, standing, point):
    """Whether an ice can be turned at an inner point."""
    row, column = point
    upper, lower = lying[row - 1][column], lying[row][column]
    left, right = standing[row][column - 1], standing[row][column]
    return upper != lower and left != right and upper == left


def turnable_points(ice):
    """The ascending list of all points at which an ice can be turned."""
    lying, standing = ice
    return [point for point in inner_points(len(lying)) if is_turnable(lying, standing, point)]


def other_edges(table, cells):
    """A table of edges in which those of some cells are full if they were empty, and empty if they were full."""
    return tuple([
        tuple([1 - edge if (row, column) in cells else edge for column, edge in enumerate(edges)])
        for row, edges in enumerate(table)
    ])


def ice_of(square):
    """The ice of a square."""
    check_square(square)
    lying = tuple([sums_along(row) for row in square])
    standing = [sums_along(column) for column in zip(*square)]
    return lying, tuple(zip(*standing))


def is_ice(value):
    """Whether any value is the ice of some square."""
    if not is_long(value, 2) or not length_between(value[0], 1, MOST_SIDES):
        return False
    lying, standing = value
    sides = len(lying)
    if not are_rows(lying, sides, sides + 1, 0, 1) or not are_rows(standing, sides + 1, sides, 0, 1):
        return False
    told = lying_square(lying)
    return is_square(told) and ice_of(told) == value


def check_ice(value):
    """Raise InvalidIce unless this is the ice of a square."""
    if not is_ice(value):
        raise InvalidIce("this is no ice of a square")


def square_by_ice(value):
    """The square whose ice this is."""
    check_ice(value)
    return lying_square(value[0])


def cell_sorts(square):
    """The sorts of the cells of a square."""
    standing = ice_of(square)[1]
    return tuple([row_sorts(above, row) for above, row in zip(standing, square)])


def sign_of(sort):
    """The integer in a cell of a sort."""
    if sort == "one":
        return 1
    return -1 if sort == "minus" else 0


def square_by_sorts(value):
    """The square whose sorts these are."""
    if length_between(value, 1, MOST_SIDES) and all([is_long(row, len(value)) for row in value]):
        told = tuple([tuple([sign_of(sort) for sort in row]) for row in value])
        if is_square(told) and cell_sorts(told) == value:
            return told
    raise InvalidSorts("this is no sorts of a square")


def sort_counts(square):
    """The tuple of how many cells a square has of each sort."""
    sorts = [sort for row in cell_sorts(square) for sort in row]
    return tuple([sorts.count(sort) for sort in SORTS])


def ice_points(value):
    """The ascending list of all points at which an ice can be turned."""
    check_ice(value)
    return turnable_points(value)


def ice_turned(value, point):
    """The ice that comes of one by turning it at a point."""
    check_ice(value)
    check_point(point, turnable_points(value))
    lying, standing = value
    row, column = point
    around = other_edges(lying, ((row - 1, column), (row, column)))
    return around, other_edges(standing, ((row, column - 1), (row, column)))
