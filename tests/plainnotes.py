"""Slow and plain reckonings of moves, notes, toggles, steps and texts, straight from the definitions."""

import random
from fractions import Fraction

from tests.plainly import neighbours, plain_heights, random_squares, square_of_heights

# For each move where the integer comes from that is at (i, j) then, in a square whose last index is m.
COMES_FROM = {
    "stay": lambda i, j, m: (i, j),
    "half": lambda i, j, m: (m - i, m - j),
    "quarter": lambda i, j, m: (m - j, i),
    "three": lambda i, j, m: (j, m - i),
    "mirrored": lambda i, j, m: (i, m - j),
    "upended": lambda i, j, m: (m - i, j),
    "tipped": lambda i, j, m: (j, i),
    "slanted": lambda i, j, m: (m - j, m - i),
}
WORDS = sorted(COMES_FROM)


def plain_moved(table, move):
    """A table of as many rows as columns with a move done to it."""
    size = len(table)
    told = [[COMES_FROM[move](i, j, size - 1) for j in range(size)] for i in range(size)]
    return tuple(tuple(table[i][j] for i, j in row) for row in told)


def plain_made(lot):
    """All moves that a lot makes, told by what they do to a table of which no two entries are the same."""
    start = ((0, 1, 2), (3, 4, 5), (6, 7, 8))
    reached, rest = {start}, [start]
    while rest:
        table = rest.pop()
        for move in lot:
            further = plain_moved(table, move)
            if further not in reached:
                reached.add(further)
                rest.append(further)
    return [move for move in WORDS if plain_moved(start, move) in reached]


def inner(sides):
    return [(i, j) for i in range(1, sides) for j in range(1, sides)]


def all_points(sides):
    return [(i, j) for i in range(sides + 1) for j in range(sides + 1)]


def plain_toggled(square, point):
    """A square toggled at an inner point."""
    table = [list(row) for row in plain_heights(square)]
    around = {table[a][b] for a, b in neighbours(*point)}
    if len(around) == 1:
        table[point[0]][point[1]] = 2 * around.pop() - table[point[0]][point[1]]
    return square_of_heights(table)


def as_pair(number):
    return number.numerator, number.denominator


def plain_notes_toggled(notes, point):
    table = [[Fraction(*share) for share in row] for row in notes]
    around = [table[a][b] for a, b in neighbours(*point)]
    i, j = point
    table[i][j] = sum(around) / sum(1 / share for share in around) / table[i][j]
    return tuple(tuple(as_pair(share) for share in row) for row in table)


def of_colour(sides, colour):
    return [point for point in inner(sides) if sum(point) % 2 == colour]


def random_share(chance, most=9):
    return as_pair(Fraction(chance.randint(1, most), chance.randint(1, most)))


def random_notes(chance, sides, most=9):
    return tuple(tuple(random_share(chance, most) for _ in range(sides + 1)) for _ in range(sides + 1))


def random_state(chance, sides, most=9):
    square = random_squares(sides, 1, chance.randint(1, 10 ** 6))[0]
    return square, random_notes(chance, sides, most), (chance.randint(0, sides), chance.randint(0, sides))


def random_order(chance, sides):
    order = list(range(sides))
    chance.shuffle(order)
    return tuple(order)


def random_step(chance, sides):
    """A step that can be done on a state of so many sides, of at least 2."""
    word = chance.choice("toggle toggle toggle colour tip mirror upend invert scale set go meet join".split())
    point = chance.randint(0, sides), chance.randint(0, sides)
    if word == "toggle":
        return word, chance.choice(inner(sides))
    if word == "colour":
        return word, chance.randint(0, 1)
    if word == "scale":
        return word, random_share(chance, 4)
    if word == "set":
        return word, point, random_share(chance, 1000)
    if word == "go":
        return word, point
    if word in ("meet", "join"):
        return word, random_order(chance, sides)
    return (word,)


def plain_stepped(state, step):
    """The state behind a step that can be done."""
    square, notes, spot = state
    sides, word = len(square), step[0]
    if word in ("toggle", "colour"):
        for point in [step[1]] if word == "toggle" else of_colour(sides, step[1]):
            square, notes = plain_toggled(square, point), plain_notes_toggled(notes, point)
    elif word in ("tip", "mirror", "upend"):
        goes = {"tip": lambda i, j, n: (j, i), "mirror": lambda i, j, n: (i, n - j), "upend": lambda i, j, n: (n - i, j)}[word]
        shown = [[None] * (sides + 1) for _ in range(sides + 1)]
        for i, j in all_points(sides):
            row, column = goes(i, j, sides)
            shown[row][column] = notes[i][j]
        cells = [[None] * sides for _ in range(sides)]
        for i in range(sides):
            for j in range(sides):
                row, column = goes(i, j, sides - 1)
                cells[row][column] = square[i][j]
        square, notes = tuple(map(tuple, cells)), tuple(map(tuple, shown))
        spot = goes(*spot, sides)
    elif word in ("meet", "join"):
        pick = min if word == "meet" else max
        order = tuple(tuple(int(column == at) for column in range(sides)) for at in step[1])
        both = zip(plain_heights(square), plain_heights(order))
        square = square_of_heights([[pick(two) for two in zip(*rows)] for rows in both])
    elif word == "go":
        spot = step[1]
    else:
        table = [list(row) for row in notes]
        for i, j in all_points(sides):
            if word == "invert":
                table[i][j] = table[i][j][::-1]
            elif word == "scale":
                table[i][j] = as_pair(Fraction(*table[i][j]) * Fraction(*step[1]))
            elif (i, j) == step[1]:
                table[i][j] = step[2]
        notes = tuple(map(tuple, table))
    return square, notes, spot


def plain_share_text(share):
    return str(share[0]) if share[1] == 1 else f"{share[0]}/{share[1]}"


def plain_notes_text(notes):
    return "; ".join(" ".join(map(plain_share_text, row)) for row in notes)


def plain_square_text(square):
    return "/".join("".join({-1: "-", 0: "0", 1: "+"}[sign] for sign in row) for row in square)


def plain_step_text(step):
    word, *items = step
    if word == "colour":
        told = [str(items[0])]
    elif word in ("toggle", "go"):
        told = ["-".join(map(str, items[0]))]
    elif word == "scale":
        told = [plain_share_text(items[0])]
    elif word == "set":
        told = ["-".join(map(str, items[0])), plain_share_text(items[1])]
    else:
        told = [str(number) for item in items for number in item]
    return " ".join([word] + told)


def plain_script_text(script):
    return "\n".join(map(plain_step_text, script))
