"""Slow and plain reckonings, straight from the definitions, to hold the program against."""

import functools
import itertools
import random

X = ((0, 1, 0), (1, -1, 1), (0, 1, 0))
P = ((0, 1, 0), (0, 0, 1), (1, 0, 0))
U = ((1, 0, 0), (0, 1, 0), (0, 0, 1))
L = ((0, 0, 1), (0, 1, 0), (1, 0, 0))
Q = ((0, 1, 0, 0), (1, -1, 0, 1), (0, 0, 1, 0), (0, 1, 0, 0))


def goes_by_turns(signs):
    shown = [sign for sign in signs if sign != 0]
    return len(shown) % 2 == 1 and all(sign == (-1) ** at for at, sign in enumerate(shown))


def plain_squares(sides):
    rows = [row for row in itertools.product((-1, 0, 1), repeat=sides) if goes_by_turns(row)]
    tables = itertools.product(rows, repeat=sides)
    return [table for table in tables if all(goes_by_turns(column) for column in zip(*table))]


SMALL = {sides: plain_squares(sides) for sides in (1, 2, 3, 4)}
ALL_SMALL = [square for sides in SMALL for square in SMALL[sides]]


def plain_heights(square):
    sides = len(square)
    return tuple(
        tuple(i + j - 2 * sum(square[r][c] for r in range(i) for c in range(j)) for j in range(sides + 1))
        for i in range(sides + 1)
    )


def plain_square(table):
    """The only square with these heights, of few sides, or None."""
    fits = [square for square in SMALL[len(table) - 1] if plain_heights(square) == table]
    return fits[0] if fits else None


def square_of_heights(table):
    """The square of heights of any number of sides."""
    sides = len(table) - 1
    corner = [[(i + j - table[i][j]) // 2 for j in range(sides + 1)] for i in range(sides + 1)]
    return tuple(
        tuple(corner[r + 1][c + 1] - corner[r][c + 1] - corner[r + 1][c] + corner[r][c] for c in range(sides))
        for r in range(sides)
    )


def neighbours(i, j):
    return [(i - 1, j), (i + 1, j), (i, j - 1), (i, j + 1)]


def points_leaning(square, by):
    table, sides = plain_heights(square), len(square)
    return [
        (i, j) for i in range(1, sides) for j in range(1, sides)
        if all(table[a][b] == table[i][j] + by for a, b in neighbours(i, j))
    ]


def plain_below(one, other):
    low, high = plain_heights(one), plain_heights(other)
    points = range(len(one) + 1)
    return all(low[i][j] <= high[i][j] for i in points for j in points)


def order_to_square(order):
    return tuple(tuple(int(column == at) for column in range(len(order))) for at in order)


def plain_orders(sides):
    return list(itertools.permutations(range(sides)))


def random_squares(sides, many, seed=7):
    """Some squares of so many sides, by random raisings and lowerings."""
    chance = random.Random(seed * 100 + sides)
    found = []
    for _ in range(many):
        order = list(range(sides))
        chance.shuffle(order)
        table = [list(row) for row in plain_heights(order_to_square(tuple(order)))]
        for _ in range(sides * sides * 3):
            if sides == 1:
                break
            i, j = chance.randint(1, sides - 1), chance.randint(1, sides - 1)
            around = {table[a][b] for a, b in neighbours(i, j)}
            if len(around) == 1:
                table[i][j] = 2 * around.pop() - table[i][j]
        found.append(square_of_heights(table))
    return found


def edge_is_full(square, word, row, column):
    if word == "lying":
        return sum(square[row][:column]) == 1
    return sum(square[above][column] for above in range(row)) == 1


def plain_ice(square):
    sides = len(square)
    return (
        tuple(tuple(int(edge_is_full(square, "lying", r, c)) for c in range(sides + 1)) for r in range(sides)),
        tuple(tuple(int(edge_is_full(square, "standing", r, c)) for c in range(sides)) for r in range(sides + 1)),
    )


def plain_sort(square, row, column):
    if square[row][column] != 0:
        return "one" if square[row][column] == 1 else "minus"
    aside = edge_is_full(square, "lying", row, column) and edge_is_full(square, "lying", row, column + 1)
    upright = edge_is_full(square, "standing", row, column) and edge_is_full(square, "standing", row + 1, column)
    return {(True, True): "both", (True, False): "across", (False, True): "down", (False, False): "none"}[aside, upright]


def plain_sorts(square):
    sides = range(len(square))
    return tuple(tuple(plain_sort(square, row, column) for column in sides) for row in sides)


def plain_roads(square):
    sorts, sides, roads = plain_sorts(square), len(square), []
    for start in range(sides):
        at, come, way = (sides - 1, start), "below", []
        while at[1] < sides:
            way.append(at)
            sort = sorts[at[0]][at[1]]
            if sort == "both":
                go = "right" if come == "below" else "up"
            else:
                go = {"down": "up", "minus": "up", "across": "right", "one": "right"}[sort]
            at, come = ((at[0] - 1, at[1]), "below") if go == "up" else ((at[0], at[1] + 1), "left")
        roads.append(tuple(way))
    return tuple(roads)


def plain_loops(square):
    sides = len(square)
    across = [
        ("across", r, c) for r in range(sides) for c in range(sides + 1)
        if (sum(square[r][:c]) + r + c) % 2 == 1
    ]
    down = [
        ("down", r, c) for r in range(sides + 1) for c in range(sides)
        if (sum(square[above][c] for above in range(r)) + r + c) % 2 == 0
    ]
    return tuple(sorted(across + down))


def out_links(sides):
    return (
        [("down", 0, c) for c in range(sides)]
        + [("across", r, sides) for r in range(sides)]
        + [("down", sides, c) for c in range(sides - 1, -1, -1)]
        + [("across", r, 0) for r in range(sides - 1, -1, -1)]
    )


def links_of_spot(row, column):
    return [("across", row, column), ("across", row, column + 1), ("down", row, column), ("down", row + 1, column)]


def plain_ways(square):
    """For each end, the way from it and the end to which it leads."""
    sides, held = len(square), set(plain_loops(square))
    ends = out_links(sides)[::2]
    told = []
    for end in ends:
        link, way = end, []
        while True:
            spot = [
                (r, c) for r in range(sides) for c in range(sides)
                if link in links_of_spot(r, c) and (r, c) not in way[-1:]
            ][0]
            way.append(spot)
            link = [some for some in links_of_spot(*spot) if some in held and some != link][0]
            if link in ends:
                break
        told.append((tuple(way), ends.index(link)))
    return told


def plain_rings(square):
    """The lots of spots that the links join, but for those on ways."""
    sides, held = len(square), set(plain_loops(square))
    lots = {(r, c): {(r, c)} for r in range(sides) for c in range(sides)}
    for (word, r, c) in held:
        one, other = ((r, c - 1), (r, c)) if word == "across" else ((r - 1, c), (r, c))
        if one in lots and other in lots:
            both = lots[one] | lots[other]
            for spot in both:
                lots[spot] = both
    on_ways = {spot for way, _ in plain_ways(square) for spot in way}
    return sorted({tuple(sorted(lot)) for spot, lot in lots.items() if spot not in on_ways})


def face_links(row, column):
    """The links above, below, at the left and at the right of a face."""
    return (
        ("across", row, column + 1), ("across", row + 1, column + 1),
        ("down", row + 1, column), ("down", row + 1, column + 1),
    )


def loops_with_face(links, face):
    """Full loops with a face turned, or None if it cannot be."""
    here = tuple(link in links for link in face_links(*face))
    if here not in ((True, True, False, False), (False, False, True, True)):
        return None
    return tuple(sorted(set(links) ^ set(face_links(*face))))


def faces(sides):
    return [(row, column) for row in range(sides - 1) for column in range(sides - 1)]


def loops_with_colour(links, sides, colour):
    for face in faces(sides):
        if sum(face) % 2 == colour:
            links = loops_with_face(links, face) or links
    return links


def pairings(places):
    """All ways to part places into pairs."""
    if not places:
        return [()]
    return [
        ((places[0], partner),) + rest
        for partner in places[1:] for rest in pairings([place for place in places[1:] if place != partner])
    ]


@functools.cache
def plain_ties(pairs):
    """The ascending list of all ties, of few pairs."""
    found = []
    for two in pairings(list(range(2 * pairs))):
        if not any(a < c < b < d for a, b in two for c, d in two):
            partners = dict(two) | {b: a for a, b in two}
            found.append(tuple(partners[place] for place in range(2 * pairs)))
    return sorted(found)


def determinant_by_orders(table):
    total = 0
    for order in plain_orders(len(table)):
        term = 1
        for row, column in enumerate(order):
            term *= table[row][column]
        crossed = sum(order[i] > order[j] for i in range(len(order)) for j in range(i + 1, len(order)))
        total += term * (-1) ** crossed
    return total
