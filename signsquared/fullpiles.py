"""Full piles, which are like themselves in all ways, and their corners."""

from signsquared.errors import InvalidCorner, InvalidHalf, InvalidPile
from signsquared.helpers import are_rows, check_at_most, check_number, is_between
from signsquared.piles import count_over, is_like_pile, is_pile
from signsquared.squarelists import count_squares

MOST_HALF = 6


def check_half(half):
    """Raise InvalidHalf unless this is a half."""
    if not is_between(half, 1, MOST_HALF):
        raise InvalidHalf("this is no half")


def full_box(half):
    """The box of the full piles of a half."""
    return 2 * half, 2 * half, 2 * half


def lower_rows(half, ahead, row):
    """The list of the rows that can follow the rows of a corner, from the row's own column on."""
    # A higher cube would lie beyond the triple that faces it in the box, of which none is a cube then.
    begun = [()]
    for column in range(row, half):
        above = ahead[-1][column - row + 1] if ahead else half
        begun = [
            line + (high,) for line in begun
            for high in range(min((above, half - 1 - column) + line[-1:]) + 1)
        ]
    return begun


def list_corners(half):
    """The list of the corners of all full piles."""
    begun = [()]
    for row in range(half):
        begun = [ahead + (line,) for ahead in begun for line in lower_rows(half, ahead, row)]
    return [whole_corner(rows) for rows in begun]


def whole_corner(rows):
    """A corner, told by its rows, each from its own column on; it is like itself by "tipped"."""
    places = range(len(rows))
    return tuple([tuple([rows[min(row, to)][abs(row - to)] for to in places]) for row in places])


def height_beside(corner, row, column):
    """The integer of a full pile in one of its first rows and, counted from the middle, one of its last columns."""
    half = len(corner)
    # The cubes of the upper half lie as those of the corner do, turned; those of the lower half as theirs, filled.
    upper = count_over(corner[column], row)
    return upper + half - count_over(corner[half - 1 - row], half - 1 - column)


def pile_of_corner(corner):
    """The pile that is full if some full pile has this corner."""
    half = len(corner)
    places = range(half)
    upper = [
        tuple([2 * half - corner[half - 1 - row][half - 1 - to] for to in places])
        + tuple([height_beside(corner, row, to) for to in places])
        for row in places
    ]
    lower = [tuple([height_beside(corner, to, row) for to in places]) + corner[row] for row in places]
    return tuple(upper + lower)


def is_full(half, value):
    """Whether any value is a full pile of a half."""
    check_half(half)
    box = full_box(half)
    if not is_pile(box, value):
        return False
    return all([is_like_pile(box, value, word) for word in ("turned", "tipped", "filled")])


def full_piles(half):
    """The ascending list of all full piles of a half of at most 4."""
    check_half(half)
    check_at_most(half, 4)
    return sorted([pile_of_corner(corner) for corner in list_corners(half)])


def corner_of(half, pile):
    """The corner of a full pile."""
    if not is_full(half, pile):
        raise InvalidPile("this is no full pile of the half")
    return tuple([row[half:] for row in pile[half:]])


def full_by_corner(half, value):
    """The full pile with this corner."""
    check_half(half)
    if are_rows(value, half, half, 0, half):
        pile = pile_of_corner(value)
        if is_full(half, pile):
            return pile
    raise InvalidCorner("this is no corner of a full pile")


def count_full(number):
    """How many full piles there are of a half from 1 to 60."""
    check_number(number, 1, 60)
    # There are as many as squares of so many sides.
    return count_squares(number)
