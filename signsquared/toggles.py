"""Toggling squares at points and by colours, and the shortest ways of toggles."""

from signsquared.below import meet, way_up
from signsquared.heights import height_table, heights, inner_points, table_square, table_with
from signsquared.helpers import check_number, check_point, is_long, is_pair
from signsquared.likenear import steps_apart
from signsquared.loopturns import turn_at
from signsquared.notes import colour_points
from signsquared.squares import check_square, check_two


def table_toggled(table, point):
    """Heights toggled at an inner point."""
    return table_with(table, point, turn_at(table, point))


def led_by(table, points):
    """Heights toggled at inner points, one after another."""
    come = table
    for point in points:
        come = table_toggled(come, point)
    return come


def toggled(square, point):
    """A square toggled at an inner point."""
    table = heights(square)
    check_point(point, inner_points(len(square)))
    return table_square(table_toggled(table, point))


def toggled_colour(square, colour):
    """A square toggled by a colour."""
    check_square(square)
    check_number(colour, 0, 1)
    return table_square(led_by(height_table(square), colour_points(len(square), colour)))


def apart(one, other):
    """The least number of toggles that lead from the one to the other square."""
    check_two(one, other)
    return steps_apart(one, other)


def toggle_way(one, other):
    """A tuple of as few points as can be whose toggles, one after another, lead from the one to the other square."""
    check_two(one, other)
    lower = meet(one, other)
    # A way up from the meet, gone backwards, leads down to it, as toggling again leads back.
    return way_up(lower, one)[::-1] + way_up(lower, other)


def is_toggle_way(one, other, value):
    """Whether any value is a tuple such as `toggle_way` tells."""
    check_two(one, other)
    if not is_long(value, steps_apart(one, other)):
        return False
    points = inner_points(len(one))
    if not all([is_pair(point) and point in points for point in value]):
        return False
    return led_by(height_table(one), value) == height_table(other)
