"""Lists of squares, their numbers, and how many there are."""

from math import comb, factorial

from signsquared.errors import InvalidNumber
from signsquared.helpers import check_at_most, check_column, check_count, check_sides, multiplied
from signsquared.squares import check_square

MOST_COUNTED = 60


def next_rows(state):
    """The ascending list of the pairs of each row that can come next, and of the state behind it.

    A state is the tuple of what the integers of each column come to so far.
    """
    begun = [((), 0)]
    for come in state:
        begun = [
            (row + (sign,), so_far + sign)
            for row, so_far in begun for sign in (-1, 0, 1)
            if 0 <= so_far + sign <= 1 and 0 <= come + sign <= 1
        ]
    rows = [row for row, so_far in begun if so_far == 1]
    return [(row, tuple([one + more for one, more in zip(state, row)])) for row in rows]


def list_squares(sides):
    """The ascending list of all squares, of however many sides."""
    begun = [((), (0,) * sides)]
    for _ in range(sides):
        begun = [(rows + (row,), behind) for rows, state in begun for row, behind in next_rows(state)]
    return [rows for rows, state in begun]


def count_finishes(state, known):
    """How many tuples of rows lead from a state to the end; `known` holds what is known of states."""
    if state not in known:
        known[state] = sum([count_finishes(behind, known) for row, behind in next_rows(state)])
    return known[state]


def sum_of_worths(sides, worth):
    """The sum, over all squares, of the products of what `worth` tells of an index, a state and its row."""
    layer = {(0,) * sides: 1}
    for index in range(sides):
        grown = {}
        for state, total in layer.items():
            for row, behind in next_rows(state):
                grown[behind] = grown.get(behind, 0) + total * worth(index, state, row)
        layer = grown
    return layer[(1,) * sides]


def tally_squares(sides, start, tell):
    """How many squares have which tuple, a dict: start, and what `tell` tells of each state and row, added."""
    layer = {(0,) * sides: {start: 1}}
    for _ in range(sides):
        grown = {}
        for state, tally in layer.items():
            for row, behind in next_rows(state):
                add_tally(grown.setdefault(behind, {}), tally, tell(state, row))
        layer = grown
    return layer[(1,) * sides]


def add_tally(sums, tally, more):
    """Add to the tally `sums` another one, with all its tuples greater by `more`."""
    for told, many in tally.items():
        greater = tuple([one + other for one, other in zip(told, more)])
        sums[greater] = sums.get(greater, 0) + many


def squares(sides):
    """The ascending list of all squares of at most 5 sides."""
    check_sides(sides)
    check_at_most(sides, 5)
    return list_squares(sides)


def square_number(square):
    """The index of a square, of at most 9 sides, in the ascending list of all."""
    check_square(square)
    check_at_most(len(square), 9)
    state, number = (0,) * len(square), 0
    known = {(1,) * len(square): 1}
    for row in square:
        behind = [(some, after) for some, after in next_rows(state) if some <= row]
        number = number + sum([count_finishes(after, known) for some, after in behind[:-1]])
        state = behind[-1][1]
    return number


def square_with(sides, number):
    """The square, of at most 9 sides, with this index in the ascending list of all."""
    check_sides(sides)
    check_count(number)
    check_at_most(sides, 9)
    known = {(1,) * sides: 1}
    state, rows, rest = (0,) * sides, [], number
    if number >= count_finishes(state, known):
        raise InvalidNumber("there are not so many squares")
    for _ in range(sides):
        row, state, rest = row_with(state, rest, known)
        rows.append(row)
    return tuple(rows)


def row_with(state, number, known):
    """The row with which the square of an index goes on, the state behind, and its index there."""
    at, rest, steps = 0, number, next_rows(state)
    while rest >= count_finishes(steps[at][1], known):
        rest = rest - count_finishes(steps[at][1], known)
        at = at + 1
    row, behind = steps[at]
    return row, behind, rest


def count_squares(sides):
    """How many squares of 1 to 60 sides there are."""
    check_sides(sides, MOST_COUNTED)
    above = multiplied([factorial(3 * at + 1) for at in range(sides)])
    return above // multiplied([factorial(sides + at) for at in range(sides)])


def count_first(sides, column):
    """How many squares of 1 to 60 sides have the first row's one at a column."""
    check_sides(sides, MOST_COUNTED)
    check_column(sides, column)
    # Of all squares, each column has a share that is a product of two binomials; all shares come to a third one.
    share = comb(sides - 1 + column, column) * comb(2 * sides - 2 - column, sides - 1)
    return count_squares(sides) * share // comb(3 * sides - 2, sides - 1)
