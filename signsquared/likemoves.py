"""Moves of squares, lots of moves, and squares that are like themselves."""

from signsquared.errors import InvalidLot, InvalidMove
from signsquared.helpers import are_ascending, length_between
from signsquared.squares import check_square

# For each move: whether rows and columns are exchanged, and then the rows, and the columns, taken the other way round.
MOVES = {
    "half": (False, True, True),
    "mirrored": (False, False, True),
    "quarter": (True, False, True),
    "slanted": (True, True, True),
    "stay": (False, False, False),
    "three": (True, True, False),
    "tipped": (True, False, False),
    "upended": (False, True, False),
}

# No two moves do the same to it.
PROBE = ((0, 1), (2, 3))


def is_move(value):
    """Whether any value is a move."""
    return isinstance(value, str) and value in MOVES


def is_lot(value):
    """Whether any value is a lot of moves."""
    if not length_between(value, 1, len(MOVES)) or not all([is_move(move) for move in value]):
        return False
    return are_ascending(value) and "stay" not in value


def check_move(move):
    """Raise InvalidMove unless this is a move."""
    if not is_move(move):
        raise InvalidMove("this is no move")


def check_lot(lot):
    """Raise InvalidLot unless this is a lot of moves."""
    if not is_lot(lot):
        raise InvalidLot("this is no lot of moves")


def table_moved(table, move):
    """A table of as many rows as columns with a move done to it."""
    tips, upends, mirrors = MOVES[move]
    rows = tuple(zip(*table)) if tips else table
    if upends:
        rows = rows[::-1]
    return tuple([row[::-1] for row in rows]) if mirrors else rows


def both_moves(move, last):
    """The move that does what one move does, and then a last one."""
    told = table_moved(table_moved(PROBE, move), last)
    return [some for some in MOVES if table_moved(PROBE, some) == told][0]


def moves_by(lot):
    """The ascending list of all moves that come of doing some of a lot."""
    made, more = [], ["stay"]
    while made != more:
        made = more
        more = sorted(set(made + [both_moves(move, last) for move in made for last in lot]))
    return made


def stays_by(square, lot):
    """Whether each move of a lot leads a square to itself."""
    return all([table_moved(square, move) == square for move in lot])


def staying_moves(square):
    """The ascending list of all moves that lead a square to itself."""
    return [move for move in MOVES if table_moved(square, move) == square]


def moved_by(square, move):
    """The square to which a move leads."""
    check_square(square)
    check_move(move)
    return table_moved(square, move)


def move_behind(move, last):
    """The move that does, on all squares, what the former does, and then the latter."""
    check_move(move)
    check_move(last)
    return both_moves(move, last)


def moves_made(lot):
    """The ascending list of all moves that a lot makes."""
    check_lot(lot)
    return moves_by(lot)


def own_moves(square):
    """The ascending list of all moves that lead a square to itself."""
    check_square(square)
    return staying_moves(square)


def is_like(square, lot):
    """Whether a square is like itself by a lot."""
    check_square(square)
    check_lot(lot)
    return stays_by(square, lot)


def all_looks(square):
    """The ascending list of all squares to which moves lead."""
    check_square(square)
    return sorted(set([table_moved(square, move) for move in MOVES]))
