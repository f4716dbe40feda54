"""Turning blocks of layings, their rise and meet, and the ways between them."""

from signsquared.below import lesser_table
from signsquared.couples import around_choices, couple_tables, floor_couple, laying_of, within_choices
from signsquared.errors import InvalidCell
from signsquared.floors import check_laying, floor_cells
from signsquared.heights import rise
from signsquared.helpers import is_pair


def flat_pair(cell):
    """The pair of the flat dominoes of the block with this first cell."""
    row, column = cell
    return ((row, column), (row, column + 1)), ((row + 1, column), (row + 1, column + 1))


def upright_pair(cell):
    """The pair of the upright dominoes of the block with this first cell."""
    row, column = cell
    return ((row, column), (row + 1, column)), ((row, column + 1), (row + 1, column + 1))


def has_both(held, pair):
    """Whether both dominoes of a pair are held."""
    return pair[0] in held and pair[1] in held


def full_blocks(size, laying):
    """The ascending list of the first cells of all blocks that are two dominoes of a laying."""
    held = {domino: True for domino in laying}
    return [
        cell for cell in floor_cells(size)
        if has_both(held, flat_pair(cell)) or has_both(held, upright_pair(cell))
    ]


def check_two_layings(size, laying, other):
    """Raise InvalidSize or InvalidLaying unless these are two layings of the floor of a size."""
    check_laying(size, laying)
    check_laying(size, other)


def nearer(height, goal, choices):
    """A height, changed by 2 towards a goal if this is among the choices."""
    if height < goal and height + 2 in choices:
        return height + 2
    if height > goal and height - 2 in choices:
        return height - 2
    return height


def nearer_table(table, goal, choices):
    """A table of heights, each changed by 2 towards that of a goal where the choices have it."""
    return tuple([
        tuple([nearer(height, end, some) for height, end, some in zip(row, ends, line)])
        for row, ends, line in zip(table, goal, choices)
    ])


def changed_points(table, changed):
    """The ascending list of the points at which two tables differ."""
    points = range(len(table))
    return [(row, column) for row in points for column in points if table[row][column] != changed[row][column]]


def turn_blocks(size, laying):
    """The ascending list of all blocks that can be turned."""
    check_laying(size, laying)
    return full_blocks(size, laying)


def block_turned(size, laying, cell):
    """The laying with a block turned."""
    check_laying(size, laying)
    if not is_pair(cell) or cell not in full_blocks(size, laying):
        raise InvalidCell("this is no block that can be turned")
    flat, upright = flat_pair(cell), upright_pair(cell)
    turned = upright if flat[0] in laying else flat
    rest = [domino for domino in laying if domino not in flat and domino not in upright]
    return tuple(sorted(rest + list(turned)))


def laying_rise(size, laying):
    """The sum of the rises of a laying's couple."""
    small, great = floor_couple(size, laying)
    return rise(small) + rise(great)


def laying_meet(size, laying, other):
    """The laying whose couple has the lesser heights of two layings' couples."""
    check_two_layings(size, laying, other)
    small, great = couple_tables(size, laying)
    other_small, other_great = couple_tables(size, other)
    return laying_of(lesser_table(small, other_small), lesser_table(great, other_great))


def turns_between(size, laying, other):
    """A tuple of as few blocks as can be whose turns lead from the one laying to the other one."""
    check_two_layings(size, laying, other)
    small, great = couple_tables(size, laying)
    small_goal, great_goal = couple_tables(size, other)
    blocks = []
    while small != small_goal or great != great_goal:
        # The heights of the small one bound each other only by those of the great one, so all can change at once.
        changed = nearer_table(small, small_goal, within_choices(great))
        blocks.extend([(row + column - 1, column - row + size - 1) for row, column in changed_points(small, changed)])
        small = changed
        changed = nearer_table(great, great_goal, around_choices(small))
        blocks.extend([(row + column - 2, column - row + size - 1) for row, column in changed_points(great, changed)])
        great = changed
    return tuple(blocks)
