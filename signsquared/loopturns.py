"""Turning faces of full loops, and leading squares round."""

from signsquared.errors import InvalidFace
from signsquared.heights import differs_around, height_table, table_square
from signsquared.helpers import check_at_most, check_number, is_pair
from signsquared.squares import check_square


def turn_at(table, point):
    """By how much the height at an inner point changes if the face there is turned, 0 if it cannot be."""
    if differs_around(table, point, 1):
        return 2
    return -2 if differs_around(table, point, -1) else 0


def faces_of(sides):
    """The ascending list of all faces of a board."""
    return [(row, column) for row in range(sides - 1) for column in range(sides - 1)]


def turnable_in(table):
    """The ascending list of all faces that can be turned, told by heights."""
    # A face's links leave and come just as its inner point is a hollow or a hill.
    return [(row, column) for row, column in faces_of(len(table) - 1) if turn_at(table, (row + 1, column + 1)) != 0]


def faces_turned(table, faces):
    """Heights with the given faces, all of one colour, turned where they can be."""
    rows = [list(row) for row in table]
    for row, column in faces:
        # Neighbouring points belong to faces of the other colour, so the old heights tell enough.
        turn = turn_at(table, (row + 1, column + 1))
        rows[row + 1][column + 1] = rows[row + 1][column + 1] + turn
    return tuple([tuple(row) for row in rows])


def led(table, colours, faces):
    """Heights with all faces of each of two colours turned, one colour after the other."""
    for colour in colours:
        table = faces_turned(table, faces[colour])
    return table


def faces_by_colour(sides):
    """The pair of the lists of all faces of the colour 0, and of the colour 1."""
    faces = faces_of(sides)
    even = [(row, column) for row, column in faces if (row + column) % 2 == 0]
    return even, [(row, column) for row, column in faces if (row + column) % 2 == 1]


def turnable_faces(square):
    """The ascending list of all faces of a square's full loops that can be turned."""
    check_square(square)
    return turnable_in(height_table(square))


def face_turned(square, face):
    """The square that comes of one by turning a face."""
    check_square(square)
    table = height_table(square)
    if not is_pair(face) or face not in turnable_in(table):
        raise InvalidFace("this is no face that can be turned")
    return table_square(faces_turned(table, [face]))


def colour_turned(square, colour):
    """The square with all faces of a colour turned that can be."""
    check_square(square)
    check_number(colour, 0, 1)
    return table_square(faces_turned(height_table(square), faces_by_colour(len(square))[colour]))


def led_round(square, times):
    """The square led round so many times; if below 0, the one that comes to it so."""
    check_square(square)
    check_number(times, -1000, 1000)
    # Turning a colour twice leads back, so the way back turns the colours the other way round.
    colours = (0, 1) if times > 0 else (1, 0)
    table, faces = height_table(square), faces_by_colour(len(square))
    for _ in range(abs(times)):
        table = led(table, colours, faces)
    return table_square(table)


def round_size(square):
    """The least number, from 1 on, of times that a square of at most 5 sides is led round to itself."""
    check_square(square)
    check_at_most(len(square), 5)
    start, faces = height_table(square), faces_by_colour(len(square))
    table, times = led(start, (0, 1), faces), 1
    while table != start:
        table, times = led(table, (0, 1), faces), times + 1
    return times
