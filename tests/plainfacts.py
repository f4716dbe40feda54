"""Slow and plain reckonings of facts, bounds and cell papers, straight from the definitions."""

import functools
import itertools
import random

from signsquared.squarelists import list_squares
from tests.plainly import SMALL, plain_heights

LISTED = {**SMALL, 5: list_squares(5), 6: list_squares(6)}

RANGES = {
    "cell": (-1, 1), "along": (0, 1), "down": (0, 1), "corner": (0, 12), "least": (-40, 40), "most": (-40, 40),
}


def is_int(value, low, high):
    return isinstance(value, int) and not isinstance(value, bool) and low <= value <= high


def plain_is_fact(sides, value):
    if not isinstance(value, tuple) or len(value) != 4 or not isinstance(value[0], str) or value[0] not in RANGES:
        return False
    word, row, column, number = value
    last_row = sides - 1 if word in ("cell", "along") else sides
    last_column = sides - 1 if word in ("cell", "down") else sides
    return is_int(row, 0, last_row) and is_int(column, 0, last_column) and is_int(number, *RANGES[word])


def plain_are_facts(sides, value):
    return isinstance(value, tuple) and len(value) <= 40 and all(plain_is_fact(sides, fact) for fact in value)


def plain_are_bounds(sides, value):
    return isinstance(value, tuple) and len(value) <= 40 and all(
        isinstance(some, tuple) and len(some) == 3 and is_int(some[0], 0, sides) and is_int(some[1], 0, sides)
        and is_int(some[2], -40, 40) for some in value
    )


def is_so(square, fact):
    word, row, column, number = fact
    if word == "cell":
        return square[row][column] == number
    if word == "along":
        return sum(square[row][:column]) == number
    if word == "down":
        return sum(square[above][column] for above in range(row)) == number
    if word == "corner":
        return sum(square[r][c] for r in range(row) for c in range(column)) == number
    height = row + column - 2 * sum(square[r][c] for r in range(row) for c in range(column))
    return height >= number if word == "least" else height <= number


def plain_told(sides, facts):
    """The ascending list of all squares of few sides that go with facts."""
    return [square for square in LISTED[sides] if all(is_so(square, fact) for fact in facts)]


@functools.cache
def every_fact(sides):
    """All facts of so many sides, but for those of corners and heights with numbers that no square has."""
    found = []
    for word, (low, high) in RANGES.items():
        low, high = max(low, -2), min(high, sides + 2)
        found += [(word, *rest) for rest in itertools.product(range(sides + 1), range(sides + 1), range(low, high + 1))]
    return [fact for fact in found if plain_is_fact(sides, fact)]


def random_facts(chance, sides, many):
    return tuple(chance.choice(every_fact(sides)) for _ in range(many))


def true_facts(chance, square, many):
    """Some facts with which a square goes."""
    right = [fact for fact in every_fact(len(square)) if is_so(square, fact)]
    return tuple(chance.choice(right) for _ in range(many))


def some_facts(sides, many=30, seed=5):
    """Lots of facts, some with which no square goes, and some with the same fact again."""
    chance = random.Random(100 * seed + sides)
    squares = LISTED.get(sides)
    found = [()]
    for at in range(many):
        facts = random_facts(chance, sides, at % 4 + 1)
        if squares and at % 3 == 0:
            facts = true_facts(chance, chance.choice(squares), at % 6 + 1)
        if at % 7 == 0:
            facts = facts + facts[:1] * 3
        found.append(facts)
    return found


def heights_of(sides):
    return [(square, plain_heights(square)) for square in LISTED[sides]]


def keeps(table, lows, highs):
    """Whether heights keep bounds from below and from above."""
    return all(table[i][j] >= h for i, j, h in lows) and all(table[i][j] <= h for i, j, h in highs)


def random_bounds(chance, sides, many, low=-3, high=None):
    high = sides + 1 if high is None else high
    return tuple(
        (chance.randint(0, sides), chance.randint(0, sides), chance.randint(low, high)) for _ in range(many)
    )


def shortest_paper(squares):
    """The least length of a cell paper for few squares, by trying all cells."""
    return shortest_of(tuple(squares))


@functools.cache
def shortest_of(squares):
    if len(squares) <= 1:
        return 0
    best = None
    for row, column in itertools.product(range(len(squares[0])), repeat=2):
        parts = [[some for some in squares if some[row][column] == sign] for sign in (-1, 0, 1)]
        if max(map(len, parts)) < len(squares):
            length = 1 + max(shortest_of(tuple(part)) for part in parts)
            best = length if best is None else min(best, length)
    return best


def is_paper(squares, sides, value):
    """Whether any value is a cell paper for a list of squares of so many sides."""
    if not isinstance(value, tuple) or not value or not isinstance(value[0], str):
        return False
    if value[0] == "none":
        return len(value) == 1 and not squares
    if value[0] == "told":
        return len(value) == 2 and [repr(square) for square in squares] == [repr(value[1])]
    if value[0] != "ask" or len(value) != 6 or not all(is_int(at, 0, sides - 1) for at in value[1:3]):
        return False
    parts = [[some for some in squares if some[value[1]][value[2]] == sign] for sign in (-1, 0, 1)]
    return all(is_paper(part, sides, paper) for part, paper in zip(parts, value[3:]))


def paper_length(value):
    return 0 if value[0] != "ask" else 1 + max(paper_length(paper) for paper in value[3:])
