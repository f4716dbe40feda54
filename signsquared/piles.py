"""Piles of cubes in a box: turned, tipped, filled, and cubes put and taken away."""

from signsquared.errors import InvalidBox, InvalidCubes, InvalidPile, InvalidSpot, InvalidWord
from signsquared.helpers import are_numbers, are_rows, is_integer, is_long, is_pair, sum_apart

MOST_SIDE = 12
LIKENESSES = ("turned", "tipped", "filled")


def check_box(box, most=MOST_SIDE):
    """Raise InvalidBox unless this is a triple of integers from 1 on."""
    if not are_numbers(box, 3, 1, most):
        raise InvalidBox("this is no box")


def check_pile(box, pile):
    """Raise InvalidBox or InvalidPile unless this is a pile in a box."""
    if not is_pile(box, pile):
        raise InvalidPile("this is no pile in the box")


def check_likeness(word):
    """Raise InvalidWord unless this is one of the words of likenesses."""
    if word not in LIKENESSES:
        raise InvalidWord("this is none of the three words")


def falls(numbers):
    """Whether no number is greater than the one ahead of it."""
    return all([after <= ahead for ahead, after in zip(numbers, numbers[1:])])


def is_triple(value):
    """Whether any value is a triple of integers."""
    return is_long(value, 3) and all([is_integer(item) for item in value])


def columns_of(rows):
    """The columns of rows."""
    return tuple(zip(*rows))


def count_over(line, level):
    """How many integers are greater than a level."""
    return len([high for high in line if high > level])


def likeness_of(box, pile, word):
    """A pile, done to it what a word says."""
    if word == "turned":
        return tuple([tuple([count_over(column, level) for level in range(box[2])]) for column in columns_of(pile)])
    if word == "tipped":
        return columns_of(pile)
    return tuple([tuple([box[2] - high for high in row[::-1]]) for row in pile[::-1]])


def open_spots(pile, height):
    """The ascending list of all spots of a pile in a box of this height at which one cube more can be put."""
    spots = [(row, column) for row, line in enumerate(pile) for column in range(len(line))]
    return [
        (row, column) for row, column in spots
        if pile[row][column] < (pile[row - 1][column] if row > 0 else height)
        and pile[row][column] < (pile[row][column - 1] if column > 0 else height)
    ]


def pile_changed(pile, spot, by):
    """A pile with the integer at a spot greater by so much."""
    row, column = spot
    line = pile[row][:column] + (pile[row][column] + by,) + pile[row][column + 1:]
    return pile[:row] + (line,) + pile[row + 1:]


def heaped(box, cubes):
    """For each spot of a box, how many of some triples lie over it."""
    over = {}
    for cube in cubes:
        over[cube[:2]] = over.get(cube[:2], 0) + 1
    return tuple([tuple([over.get((row, column), 0) for column in range(box[1])]) for row in range(box[0])])


def is_pile(box, value):
    """Whether any value is a pile in a box."""
    check_box(box)
    width, depth, height = box
    if not are_rows(value, width, depth, 0, height):
        return False
    return all([falls(row) for row in value]) and all([falls(column) for column in columns_of(value)])


def cubes_of(box, pile):
    """The ascending list of all cubes of a pile."""
    check_pile(box, pile)
    return [
        (row, column, level)
        for row, line in enumerate(pile) for column, high in enumerate(line) for level in range(high)
    ]


def pile_with(box, cubes):
    """The pile with these cubes, a list or a tuple in any order."""
    check_box(box)
    if isinstance(cubes, (list, tuple)) and all([is_triple(cube) for cube in cubes]):
        pile = heaped(box, cubes)
        if is_pile(box, pile) and cubes_of(box, pile) == sorted(cubes):
            return pile
    raise InvalidCubes("these are no cubes of a pile in the box")


def pile_turned(box, pile):
    """A pile turned."""
    check_pile(box, pile)
    return likeness_of(box, pile, "turned")


def pile_tipped(box, pile):
    """A pile tipped."""
    check_pile(box, pile)
    return likeness_of(box, pile, "tipped")


def pile_filled(box, pile):
    """A pile filled."""
    check_pile(box, pile)
    return likeness_of(box, pile, "filled")


def is_like_pile(box, pile, word):
    """Whether a pile is like itself by a word."""
    check_pile(box, pile)
    check_likeness(word)
    # A pile that stays as it is has as many rows and columns as before, and so its box stays, too.
    return likeness_of(box, pile, word) == pile


def spots_on(box, pile):
    """The ascending list of all spots at which one cube more can be put."""
    check_pile(box, pile)
    return open_spots(pile, box[2])


def spots_off(box, pile):
    """The ascending list of all spots at which one cube can be taken away."""
    check_pile(box, pile)
    # A cube that can be taken away is one that can be put to the pile filled.
    width, depth, height = box
    filled = likeness_of(box, pile, "filled")
    return sorted([(width - 1 - row, depth - 1 - column) for row, column in open_spots(filled, height)])


def cube_on(box, pile, spot):
    """A pile with one cube more at a spot."""
    spots = spots_on(box, pile)
    if not is_pair(spot) or spot not in spots:
        raise InvalidSpot("no cube can be put there")
    return pile_changed(pile, spot, 1)


def cube_off(box, pile, spot):
    """A pile with one cube less at a spot."""
    spots = spots_off(box, pile)
    if not is_pair(spot) or spot not in spots:
        raise InvalidSpot("no cube can be taken away there")
    return pile_changed(pile, spot, -1)


def least_turns(box, pile, other):
    """The least number of cubes to be put and taken away between two piles."""
    check_pile(box, pile)
    check_pile(box, other)
    return sum_apart(pile, other)
