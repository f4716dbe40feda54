"""Sliding the dominoes of layings, and growing and shrinking these."""

from signsquared.blocks import flat_pair, full_blocks, upright_pair
from signsquared.couples import around_choices, chosen, couple_tables, laying_of, within_choices
from signsquared.errors import InvalidSigns
from signsquared.floors import check_laying, check_size, is_flat
from signsquared.heights import table_square
from signsquared.helpers import are_numbers
from signsquared.squares import cells_with


def is_forward(size, cell):
    """Whether a domino with this first cell is a forward one."""
    row, column = cell
    return (row + column + size) % 2 == 1


def colliding(size, laying):
    """The list of all dominoes that collide in blocks of a laying, lying either way."""
    # Of two that share a block the one is forward and the other one backward, so the first one tells enough.
    cells = [cell for cell in full_blocks(size, laying) if not is_forward(size, cell)]
    return [domino for cell in cells for domino in flat_pair(cell) + upright_pair(cell)]


def slid(size, domino):
    """A domino slid."""
    if is_flat(domino):
        down, aside = (0, 1) if is_forward(size, domino[0]) else (2, 1)
    else:
        down, aside = (1, 0) if is_forward(size, domino[0]) else (1, 2)
    return tuple([(row + down, column + aside) for row, column in domino])


def check_signs(signs, many):
    """Raise InvalidSigns unless this is a tuple of so many integers 0 or 1."""
    if not are_numbers(signs, many, 0, 1):
        raise InvalidSigns("this is no such signs")


def slid_dominoes(size, laying):
    """The ascending tuple of the slid dominoes of a laying of size 10 at most."""
    check_size(size, 1, 10)
    check_laying(size, laying)
    staying = colliding(size, laying)
    return tuple(sorted([slid(size, domino) for domino in laying if domino not in staying]))


def grown_laying(size, laying, signs):
    """The laying grown of one of size 10 at most with these signs."""
    check_size(size, 1, 10)
    check_laying(size, laying)
    great = couple_tables(size, laying)[1]
    check_signs(signs, len(cells_with(table_square(great), 1)))
    return laying_of(great, chosen(around_choices(great), signs))


def shrunk_laying(size, laying, signs):
    """The laying shrunk of one of size 2 or more with these signs."""
    check_size(size, 2)
    check_laying(size, laying)
    small = couple_tables(size, laying)[0]
    check_signs(signs, len(cells_with(table_square(small), -1)))
    return laying_of(chosen(within_choices(small), signs), small)


def growth_signs(size, laying):
    """The signs of a laying of size 2 or more as one that is grown."""
    check_size(size, 2)
    check_laying(size, laying)
    small, great = couple_tables(size, laying)
    return tuple([
        1 if great[row + 1][column + 1] > small[row][column] else 0
        for row, column in cells_with(table_square(small), 1)
    ])
