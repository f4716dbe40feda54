"""Floors, and their layings with dominoes."""

from signsquared.errors import InvalidLaying, InvalidSize
from signsquared.helpers import are_ascending, check_at_most, is_between, is_long, is_pair

MOST_SIZE = 11


def check_size(size, low=1, high=MOST_SIZE):
    """Raise InvalidSize unless this is an integer from low to high."""
    if not is_between(size, low, high):
        raise InvalidSize("this is no such size")


def check_laying(size, laying):
    """Raise InvalidSize or InvalidLaying unless this is a laying of the floor of a size."""
    if not is_floor_laying(size, laying):
        raise InvalidLaying("this is no laying of the floor")


def row_bounds(size, row):
    """The first column of a row of a floor, and the one behind its last one."""
    if row < size:
        return size - 1 - row, size + row + 1
    return row - size, 3 * size - row


def row_columns(size, row):
    """The ascending list of the columns of a row of a floor; a column has these rows."""
    first, behind = row_bounds(size, row)
    return list(range(first, behind))


def is_domino(value):
    """Whether any value is an ascending pair of cells, one below the other one or at its right."""
    if not is_long(value, 2) or not is_pair(value[0]) or not is_pair(value[1]):
        return False
    row, column = value[0]
    return value[1] in ((row, column + 1), (row + 1, column))


def is_flat(domino):
    """Whether a domino is a flat one."""
    return domino[0][0] == domino[1][0]


def layings_on(cells):
    """The ascending list of all layings of the cells of an ascending tuple."""
    if not cells:
        return [()]
    row, column = cells[0]
    found = []
    for partner in ((row, column + 1), (row + 1, column)):
        if partner in cells:
            rest = tuple([cell for cell in cells[1:] if cell != partner])
            found.extend([((cells[0], partner),) + laying for laying in layings_on(rest)])
    return found


def floor_cells(size):
    """The ascending list of all cells of a floor."""
    check_size(size)
    return [(row, column) for row in range(2 * size) for column in row_columns(size, row)]


def is_floor_laying(size, value):
    """Whether any value is a laying of the floor of a size."""
    check_size(size)
    if not is_long(value, size * (size + 1)) or not all([is_domino(domino) for domino in value]):
        return False
    return are_ascending(value) and sorted([cell for domino in value for cell in domino]) == floor_cells(size)


def upright_laying(size):
    """The laying of upright dominoes alone."""
    check_size(size)
    return tuple(sorted([
        ((row, column), (row + 1, column))
        for column in range(2 * size) for row in row_columns(size, column)[::2]
    ]))


def floor_layings(size):
    """The ascending list of all layings of a floor of size 3 at most."""
    check_size(size)
    check_at_most(size, 3)
    return layings_on(tuple(floor_cells(size)))


def flat_dominoes(size, laying):
    """How many dominoes of a laying are flat."""
    check_laying(size, laying)
    return len([domino for domino in laying if is_flat(domino)])
