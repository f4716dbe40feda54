"""Slow and plain reckonings of floors, their layings and their couples, straight from the definitions."""

import functools
import random

from tests.plainly import SMALL, plain_heights, square_of_heights


def plain_cells(size):
    cells = []
    for row in range(2 * size):
        low, high = (size - 1 - row, size + row) if row <= size - 1 else (row - size, 3 * size - 1 - row)
        cells += [(row, column) for column in range(low, high + 1)]
    return cells


@functools.cache
def plain_layings(size):
    """The ascending list of all layings: of the last free cell its neighbours above and at the left are tried."""
    found = []

    def lay(free, laid):
        if not free:
            found.append(tuple(sorted(laid)))
            return
        row, column = max(free)
        for cell in ((row - 1, column), (row, column - 1)):
            if cell in free:
                lay(free - {cell, (row, column)}, laid + [(cell, (row, column))])

    lay(frozenset(plain_cells(size)), [])
    return sorted(found)


def upright(size):
    """The laying of upright dominoes alone: each cell of an even height in its column, with the one below it."""
    cells = plain_cells(size)
    tops = {column: min(row for row, some in cells if some == column) for _, column in cells}
    return tuple(sorted(
        ((row, column), (row + 1, column)) for row, column in cells if (row - tops[column]) % 2 == 0
    ))


def plain_blocks(laying):
    """For each block that can be turned, the pair of the laying's two dominoes there and of those that come."""
    held, found = set(laying), {}
    for row, column in {cell for domino in laying for cell in domino}:
        a, b, c, d = (row, column), (row, column + 1), (row + 1, column), (row + 1, column + 1)
        flat, standing = {(a, b), (c, d)}, {(a, c), (b, d)}
        if flat <= held:
            found[row, column] = flat, standing
        elif standing <= held:
            found[row, column] = standing, flat
    return found


def turn(laying, cell):
    old, new = plain_blocks(laying)[cell]
    return tuple(sorted((set(laying) - old) | new))


@functools.cache
def random_layings(size, many, seed=3):
    chance = random.Random(100 * seed + size)
    found = []
    for _ in range(many):
        laying = upright(size)
        for _ in range(5 * size * size):
            laying = turn(laying, chance.choice(sorted(plain_blocks(laying))))
        found.append(laying)
    return found


def plain_fit(small, great):
    if len(great) != len(small) + 1:
        return False
    s, g, points = plain_heights(small), plain_heights(great), range(len(small) + 1)
    return all(
        g[i][j] - s[i][j] in (0, 2) and g[i + 1][j + 1] - s[i][j] in (0, 2)
        and abs(g[i][j + 1] - s[i][j]) == 1 and abs(g[i + 1][j] - s[i][j]) == 1
        for i in points for j in points
    )


def plain_laying(small, great):
    """The laying of a couple, as [24] tells it."""
    s, g, n, dominoes = plain_heights(small), plain_heights(great), len(small), set()
    for i in range(n + 1):
        for j in range(n + 1):
            r, c = i + j - 1, j - i + n
            if g[i][j] > s[i][j]:
                dominoes.add(((r, c - 1), (r, c)))
            if g[i + 1][j + 1] > s[i][j]:
                dominoes.add(((r + 1, c - 1), (r + 1, c)))
            if g[i][j + 1] < s[i][j]:
                dominoes.add(((r, c), (r + 1, c)))
            if g[i + 1][j] < s[i][j]:
                dominoes.add(((r, c - 1), (r + 1, c - 1)))
    return tuple(sorted(dominoes))


@functools.cache
def plain_couples(size):
    """All couples of small squares of so many sides."""
    return [(small, great) for small in SMALL[size] for great in SMALL[size + 1] if plain_fit(small, great)]


def plain_rise(square):
    """Half of what the heights are more than those of the unit square."""
    points = range(len(square) + 1)
    table = plain_heights(square)
    return sum(table[i][j] - abs(i - j) for i in points for j in points) // 2


def lesser(one, other):
    """The square that has the lesser ones of two squares' heights."""
    return square_of_heights([[min(two) for two in zip(*rows)] for rows in zip(plain_heights(one), plain_heights(other))])


def is_forward(size, domino):
    return (domino[0][0] + domino[0][1] + size) % 2 == 1


def collide(size, one, other):
    """Whether two dominoes, the first one above or at the left of the second one, collide."""
    (a, b), (c, d) = one, other
    flat = a[0] == b[0]
    if flat:
        beside = c == (a[0] + 1, a[1]) and d == (b[0] + 1, b[1])
    else:
        beside = c == (a[0], a[1] + 1) and d == (b[0], b[1] + 1)
    return beside and not is_forward(size, one) and is_forward(size, other)


def plain_slid(size, laying):
    """The slid dominoes of a laying, as [25] tells them."""
    lost = {some for one in laying for other in laying if collide(size, one, other) for some in (one, other)}
    found = []
    for (row, column), (below, right) in set(laying) - lost:
        down, aside = {
            (True, True): (0, 1), (True, False): (2, 1), (False, True): (1, 0), (False, False): (1, 2),
        }[row == below, is_forward(size, ((row, column), (below, right)))]
        found.append(((row + down, column + aside), (below + down, right + aside)))
    return tuple(sorted(found))
