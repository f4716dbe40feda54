"""Notes: a share at each point, plain ones of squares, and how they are toggled."""

from math import gcd

from signsquared.errors import InvalidNotes, InvalidShare
from signsquared.heights import heights, inner_points
from signsquared.helpers import check_number, check_point, check_sides, fraction, is_long, is_pair, power


def is_share(value):
    """Whether any value is a share."""
    return is_pair(value) and min(value) > 0 and gcd(value[0], value[1]) == 1


def check_share(share):
    """Raise InvalidShare unless this is a share."""
    if not is_share(share):
        raise InvalidShare("this is no share")


def check_notes(sides, notes):
    """Raise InvalidSides or InvalidNotes unless these are notes of so many sides."""
    if not are_notes(sides, notes):
        raise InvalidNotes("this is no notes of so many sides")


def turned_over(share):
    """1 divided by a share."""
    return share[1], share[0]


def product_of(share, other):
    """The product of two shares."""
    return fraction(share[0] * other[0], share[1] * other[1])


def added_shares(shares):
    """The sum of some shares, at least one."""
    top, below = 0, 1
    for share in shares:
        top, below = fraction(top * share[1] + share[0] * below, below * share[1])
    return top, below


def notes_times(notes, share):
    """Notes with all of them times a share."""
    return tuple([tuple([product_of(note, share) for note in row]) for row in notes])


def notes_turned_over(notes):
    """Notes with 1 divided by each of them in its place."""
    return tuple([tuple([turned_over(note) for note in row]) for row in notes])


def notes_with(notes, point, share):
    """Notes with another share at a point."""
    row, column = point
    changed = notes[row][:column] + (share,) + notes[row][column + 1:]
    return notes[:row] + (changed,) + notes[row + 1:]


def toggled_note(notes, point):
    """What comes in the place of the note at an inner point if notes are toggled there."""
    row, column = point
    around = [notes[row - 1][column], notes[row + 1][column], notes[row][column - 1], notes[row][column + 1]]
    below = product_of(added_shares([turned_over(share) for share in around]), notes[row][column])
    return product_of(added_shares(around), turned_over(below))


def colour_points(sides, colour):
    """The ascending list of the inner points of a colour."""
    return [(row, column) for row, column in inner_points(sides) if (row + column) % 2 == colour]


def are_notes(sides, value):
    """Whether any value is notes of so many sides."""
    check_sides(sides)
    if not is_long(value, sides + 1) or not all([is_long(row, sides + 1) for row in value]):
        return False
    return all([is_share(share) for row in value for share in row])


def plain_notes(square):
    """The plain notes of a square."""
    return tuple([tuple([(power(2, height), 1) for height in row]) for row in heights(square)])


def notes_toggled(sides, notes, point):
    """Notes of so many sides toggled at an inner point."""
    check_notes(sides, notes)
    check_point(point, inner_points(sides))
    return notes_with(notes, point, toggled_note(notes, point))


def notes_by_colour(sides, notes, colour):
    """Notes of so many sides toggled by a colour."""
    check_notes(sides, notes)
    check_number(colour, 0, 1)
    toggled = notes
    for point in colour_points(sides, colour):
        # No two points of a colour are neighbours, so each may be told by what has come so far.
        toggled = notes_with(toggled, point, toggled_note(toggled, point))
    return toggled
