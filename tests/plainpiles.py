"""Slow and plain reckonings of piles, their roads and tiles, straight from the definitions."""

import functools
import itertools
import random
from fractions import Fraction

SMALL_BOXES = [
    (1, 1, 1), (1, 1, 3), (1, 3, 1), (3, 1, 1), (1, 2, 2), (2, 1, 2), (2, 2, 1), (2, 2, 2), (2, 3, 1), (1, 2, 3), (2, 3, 2),
    (3, 2, 2), (2, 2, 3), (3, 3, 1), (1, 3, 3), (2, 2, 4), (1, 1, 12), (3, 3, 2), (1, 4, 2), (4, 2, 1),
]


@functools.cache
def plain_piles(box):
    """The ascending list of all piles in a small box."""
    a, b, c = box
    found = []
    for flat in itertools.product(range(c + 1), repeat=a * b):
        rows = tuple(flat[b * i:b * i + b] for i in range(a))
        if all(
            rows[i][j] <= rows[i][j - 1 if j else j] and rows[i][j] <= rows[i - 1 if i else i][j]
            for i in range(a) for j in range(b)
        ):
            found.append(rows)
    return found


def cubes(pile):
    return {(i, j, k) for i, row in enumerate(pile) for j, most in enumerate(row) for k in range(most)}


def pile_by(box, lot):
    """The tuple of rows of how many cubes of a lot lie at each spot."""
    return tuple(tuple(sum((i, j) == cube[:2] for cube in lot) for j in range(box[1])) for i in range(box[0]))


def done(box, pile, word):
    """The pair of the box and of the cubes of a pile turned, tipped or filled."""
    a, b, c = box
    held = cubes(pile)
    if word == "turned":
        return (b, c, a), {(j, k, i) for i, j, k in held}
    if word == "tipped":
        return (b, a, c), {(j, i, k) for i, j, k in held}
    every = itertools.product(range(a), range(b), range(c))
    return box, {(a - 1 - i, b - 1 - j, c - 1 - k) for i, j, k in every if (i, j, k) not in held}


def is_like(box, pile, word):
    return done(box, pile, word) == (box, cubes(pile))


def plain_roads_of(box, pile):
    roads = []
    for row in pile:
        road, ahead = "", box[2]
        for most in row:
            road += "d" * (ahead - most) + "r"
            ahead = most
        roads.append(road + "d" * ahead)
    return tuple(roads)


def walked(start, road):
    points = [start]
    for sign in road:
        x, y = points[-1]
        points.append((x + 1, y) if sign == "r" else (x, y - 1))
    return tuple(points)


def roads_between(start, end):
    right, down = end[0] - start[0], start[1] - end[1]
    if right < 0 or down < 0:
        return []
    return [
        "".join("r" if at in some else "d" for at in range(right + down))
        for some in itertools.combinations(range(right + down), right)
    ]


def plain_apart(starts, ends):
    """How many tuples of roads there are of which no two meet, one by one."""
    ways = [[set(walked(start, road)) for road in roads_between(start, end)] for start, end in zip(starts, ends)]
    return sum(
        all(not one & other for one, other in itertools.combinations(some, 2)) for some in itertools.product(*ways)
    )


def plain_tiles(box, pile):
    a, b, c = box
    tiles = [(0, i - pile[i][j], j - pile[i][j]) for i in range(a) for j in range(b)]
    for k in range(c):
        tiles += [(1, sum(pile[i][j] > k for i in range(a)) - k, j - k) for j in range(b)]
        tiles += [(2, i - k, sum(pile[i][j] > k for j in range(b)) - k) for i in range(a)]
    return tuple(sorted(tiles))


def plain_count(box):
    product = Fraction(1)
    for i, j, k in itertools.product(*map(range, box)):
        product *= Fraction(i + j + k + 2, i + j + k + 1)
    return product


def random_pile(box, seed):
    """Some pile, by random cubes put and taken away."""
    chance = random.Random(f"{box} {seed}")
    a, b, c = box
    rows = [[0] * b for _ in range(a)]
    for _ in range(20 * a * b * c):
        i, j, by = chance.randrange(a), chance.randrange(b), chance.choice((1, -1))
        high = rows[i][j] + by
        above = min([c] + ([rows[i - 1][j]] if i else []) + ([rows[i][j - 1]] if j else []))
        below = max([0] + ([rows[i + 1][j]] if i + 1 < a else []) + ([rows[i][j + 1]] if j + 1 < b else []))
        if below <= high <= above:
            rows[i][j] = high
    return tuple(map(tuple, rows))


GREAT_PILES = [
    (box, random_pile(box, seed))
    for box in ((5, 4, 3), (4, 4, 4), (1, 12, 5), (12, 1, 12), (6, 6, 2), (12, 12, 12)) for seed in (1, 2)
]
EVERY_PILE = [(box, pile) for box in SMALL_BOXES for pile in plain_piles(box)]
MANY_PILES = EVERY_PILE + GREAT_PILES
