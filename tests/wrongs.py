"""Any values, and for each kind of argument values that are none of this kind."""

from signsquared.errors import InvalidSquare, SignError, TooMany
from signsquared.lifebenches import Bench
from signsquared.lifevalues import Toned
from tests.plainly import P, Q, U, X, out_links, plain_heights, plain_ice, plain_loops, plain_roads, plain_sorts


def nested(inner, depth, kind):
    for _ in range(depth):
        inner = kind([inner])
    return inner


NOTES_OF_ONE = (((1, 1), (1, 2)), ((2, 3), (1, 1)))
TONED = Toned(((1,),), NOTES_OF_ONE)
BENCH = Bench((((1,),), NOTES_OF_ONE, (0, 1)))

INTEGERS = [0, 1, -1, 2, 3, 12, 13, 60, 61, -1000, 1000, 10 ** 119, -(10 ** 119)]

NO_INTEGERS = [
    None, True, False, "", "0", "one", "1\n2", "+0/0+", " " * 1000, (), [], ((),), [[]], ([],), [()], (None,), (True,),
    ("a",), (1,), [1], [[1]], ((True,),), (([1],),), ((1.0,),), (0, 1), [0, 1], (1, 0), (1, 1), (True, 1), (1, True),
    (0, None), ("0", "1"), (0, 1, 2), (1, 2, 3), ((0, 1), (1,)), ((0, 1), (1, 0, 0)), ((1, 0), [0, 1]), [(1, 0), (0, 1)],
    ((1, 0), (0, None)), ((1, 0), (0, True)), (("1", "0"), ("0", "1")), ((1, 0), (1, 0)), ((0, 0), (0, 0)),
    ((2, -1), (-1, 2)), ((10 ** 119,),), (10 ** 119,) * 3, (0,) * 500, ((0,) * 500,) * 500, [0] * 500, "1" * 500,
    nested(1, 30, tuple), nested(1, 30, list), nested((), 29, tuple), InvalidSquare("x"), SignError("x"), TooMany(3),
    (InvalidSquare("x"), 1), ((1, 0), (0, InvalidSquare("x"))), ((), ()), ((), ((),)), (((),), ((),)), (0, (1, 0)),
    ("across", 0, 0), (("across", 0, 0),), (("one",),) * 2, ("one",), ("a", "b", "c"), (((0, 0),), ((0, 0),)),
    TONED, BENCH, (TONED,), [BENCH], (TONED, BENCH), (BENCH, 1, 1), ((TONED, 0), (0, BENCH)), (0, BENCH),
]

ANY = INTEGERS + NO_INTEGERS


def identity(sides):
    return tuple(tuple(int(row == column) for column in range(sides)) for row in range(sides))


def spoilt(value):
    """Values that differ from a right one at one place, or in how it is built."""
    told = [list(value), value + value[-1:], value[:-1], value + (None,)]
    for at, item in enumerate(value):
        others = [None, "x", [item], (item,), -7, 99, TONED]
        if item in (0, 1) and isinstance(item, int):
            others.append(bool(item))
        if isinstance(item, tuple):
            others = [None, "x", 7] + spoilt(item)
        told += [value[:at] + (other,) + value[at + 1:] for other in others]
    return told


def any_but(rights, *more):
    """Any values but right ones, and further wrong ones; told apart by how they are written, as True equals 1."""
    return [value for value in ANY if repr(value) not in [repr(right) for right in rights]] + list(more)


def integers_but(low, high, *more):
    """Any values but integers from low to high, and those next to these bounds."""
    return [value for value in INTEGERS if not low <= value <= high] + NO_INTEGERS + [low - 1, high + 1] + list(more)


SQUARES = any_but(
    [((1, 0), (0, 1))], *spoilt(X), *spoilt(P), *spoilt(Q), identity(13), ((1, -1, 1), (0, 1, 0), (0, 1, 0)),
    ((0, 1, 0), (1, 0, 0), (0, 1, 0)), ((0, 1, 0), (1, -1, 1)), ((-1,),), ((0,),), ((0, 1), (0, 1)), ((1, 0), (1, 0)),
    ((0, 0, 1), (1, 0, -1), (0, 0, 1)), ((1, 1, -1), (0, 0, 1), (0, 0, 1)), ((1, 0, 0), (0, 1, 0)), ["100", "010", "001"],
)
ORDERS = any_but([(0, 1), (1, 0), (0, 1, 2)], (0, 0), (1, 2), (-1, 0), (0, 2), tuple(range(13)), (0, True), (False, 1), range(3))
POINTS = any_but([(1, 1)], (0, 1), (1, 0), (3, 1), (1, 3), (-1, 1), (1, -1), (True, True), [1, 1], (1, 1, 1), ("1", "1"))
HEIGHTS = any_but([((0, 1), (1, 0))], *spoilt(plain_heights(X)), ((0,),), ((0, 1, 2), (1, 1, 1), (2, 1, 0)),
                  ((0, 1, 2), (1, 4, 1), (2, 1, 0)), ((0, 1, 2), (1, -2, 1), (2, 1, 0)), plain_heights(identity(13)))
TRIANGLES = any_but(
    [], *spoilt(((1,), (0, 2), (0, 1, 2))), ((0,), (1, 2), (0, 1, 2)), ((2,), (0, 1), (0, 1, 2)), ((0,), (0, 2)), ((1,),),
    ((1,), (2, 0), (0, 1, 2)), ((1,), (1, 1), (0, 1, 2)), tuple(tuple(range(many)) for many in range(1, 14)),
)
LISTS_OF_ORDERS = any_but(
    [((0, 1), (1, 0)), ((1, 0), (1, 0))], ((0, 1), (0, 1, 2)), ((0, 1),) * 61, ((0, 0),), [(0, 1)], ([0, 1],), ((0, True),), (tuple(range(13)),),
)
ICES = any_but(
    [], *spoilt(plain_ice(X)), *spoilt(plain_ice(U)), (plain_ice(X)[0], plain_ice(P)[1]), plain_ice(X)[::-1],
    plain_ice(identity(13)), (((0, 1, 1), (0, 1, 1)), ((0, 0), (1, 0), (1, 1))),
)
SORTS = any_but([(("one",),)], *spoilt(plain_sorts(X)), *spoilt(plain_sorts(Q)), (("one",),) * 2, plain_sorts(identity(13)),
                (("one", "none"), ("both", "one")), (("one", "across"), ("both", "one")), (("minus",),))
ROADS = any_but(
    [], *spoilt(plain_roads(X)), *spoilt(plain_roads(P)), plain_roads(X)[::-1], plain_roads(identity(13)),
    (((1, 0), (1, 1)), ((1, 1), (0, 1))), (((1, 0), (0, 0), (0, 1)), ((1, 1), (0, 1))), (((0, 0), (0, 0)),),
)
WEIGHTS = any_but([(0, 1, 2), (1, 2, 3)], (1001, 0, 0), (0, -1001, 0), (0, 0, 1001), (0, 0), (0, 0, 0, 0), [1, 1, 1], (1, True, 1))
NUMBERS_OF_LINES = any_but(
    [(1, 2, 3), (0, 1, 2)], (1001, 0, 0), (0, 0, -1001), (0,) * 13, [1, 2, 3], (1, 2, True), (1, 2), (1, 2, 3, 4), (1, 2, "3"),
)
ENDS = integers_but(0, 5)
FACES = any_but([(0, 0), (0, 1), (1, 0), (1, 1)], (2, 0), (0, 2), (-1, 0), (0, -1), (False, False), (1, True), [0, 0], (0, 0, 0))
LOOPS = any_but(
    [], *spoilt(plain_loops(X)), *spoilt(plain_loops(U)), plain_loops(X)[::-1], plain_loops(identity(2)), plain_loops(Q),
    tuple(sorted(out_links(3))), plain_loops(identity(13)), plain_loops(X) + plain_loops(X)[-1:],
)
TIES = any_but(
    [(1, 0)], *spoilt((1, 0, 5, 4, 3, 2)), (2, 3, 0, 1), (0, 1), (1, 2, 0, 3), (0,), (1, 0, 3), (1, 0, 4, 3, 2, 5),
    (1, 2, 3, 0), tuple(range(25, -1, -1)), (2, 3, 0, 1, 5, 4), (3, 4, 5, 0, 1, 2),
)
PAIRS = any_but(
    [((0, 1),)], *spoilt(((0, 5), (1, 2), (3, 4))), ((0, 2), (1, 3)), ((1, 0),), ((1, 2), (0, 3)), ((0, 1), (2, 3), (2, 3)),
    ((0, 1), (0, 1)), ((0, 0),), ((-1, 0),), ((0, 2),), tuple((2 * at, 2 * at + 1) for at in range(13)), [(0, 1)], ((0, 10 ** 119),),
)
UPRIGHT = (((0, 1), (1, 1)), ((0, 2), (1, 2)), ((1, 0), (2, 0)), ((1, 3), (2, 3)), ((2, 1), (3, 1)), ((2, 2), (3, 2)))
LAYINGS = any_but(
    [], *spoilt(UPRIGHT), UPRIGHT[::-1], UPRIGHT[1:] + UPRIGHT[:1], UPRIGHT * 2, (((0, 0), (0, 1)), ((1, 0), (1, 1))),
    tuple(sorted(UPRIGHT[:-1] + UPRIGHT[:1])), UPRIGHT[:4] + (((2, 1), (2, 2)), ((3, 1), (3, 3))),
    UPRIGHT[:4] + (((2, 1), (2, 2)), ((3, 2), (3, 1))), UPRIGHT[:4] + (((2, 2), (2, 1)), ((3, 1), (3, 2))),
    tuple(((row, column + 1), (below, right + 1)) for (row, column), (below, right) in UPRIGHT),
)
PLACES = integers_but(0, 5)
WORDS = any_but(
    [(), (1,), (0, 1), (1, 0), (1, 1), (0, 1, 2), (1, 2, 3)], (6,), (-1,), (0, 6), (5, -1), (0,) * 61, [0, 1], (0, True), (0, "1"), "01",
)
CELLS = any_but([(0, 1)], (0, 1, 1), [0, 1], (0, True), (False, 1), (0, 0), (1, 1), (2, 2), (0, 2), (-1, 1), ("0", "1"))
SIGNS = any_but([(0, 1, 0)], (0, 1), (0, 1, 0, 1), (0, 1, 2), (-1, 0, 1), (0, True, 0), [0, 1, 0], (False,) * 3, "010", ())
NO_SIGNS = any_but([()], (0, 1), [], (0,), (1,), (False,), (2,), "")
BOXES = any_but([(1, 2, 3)], (0, 1, 1), (1, 0, 1), (1, 1, 0), (13, 1, 1), (1, 13, 1), (1, 1, 13), (2, 2), (2, 2, 2, 2), [2, 2, 2],
                (2, True, 2), (True, 2, 2), ("2", 2, 2), (2, 2, None), (-2, 2, 2), (0, 1, 2), (10 ** 119, 1, 1))
HEAP = ((2, 2, 0), (1, 0, 0))
PILES = any_but(
    [], *spoilt(HEAP), ((2, 2, 0), (1, 2, 0)), ((1, 2, 0), (1, 0, 0)), ((2, 2, 0), (1, 0, 1)), ((3, 2, 0), (1, 0, 0)),
    ((2, 2, 0), (1, 0, -1)), ((2, 2), (1, 0), (0, 0)), ((2, 2, 0),), ((1, 0, 0), (2, 2, 0)), ["220", "100"], ((2, 2, False), (True, 0, 0)),
)
CUBES = any_but(
    [(), []], ((0, 0, 0), (0, 0, 0)), [(0, 0, 0), (0, 0, 0)], ((0, 0, 1),), [(0, 1, 0)], ((1, 0, 0),), [[0, 0, 0]], ((0, 0, False),),
    ((False, 0, 0),), [(0, 0, True), (0, 0, 0)], [(0, 0)], [(0, 0, 0, 0)], [(0, 0, 0), (0, 0, 1), (0, 0, 2)], [(0, 0, -1)], [(0, 0, 0), None],
    [(at, 0, 0) for at in range(3)], [(0, at, 0) for at in range(4)], [(0, 0, 0), (0, 0, 10 ** 119)], [(0, 0, "0")], (0, 0, 0), "000",
    [(0, 0, 0), (-1, 0, 0)], [(0, 0, 0), (0, -1, 0)], {(0, 0, 0): True}, [(0, 0, 0)] * 2000, ((0, 0, 0),) * 1729,
)
LIKENESSES = any_but([], "Turned", "turned ", "tip", "", "half", ("turned",), ["turned"], b"turned", "turnedtipped", "TIPPED")
SPOTS_ON = any_but([(0, 2), (1, 0), (1, 1)], (0, 0), (0, 1), (1, 2), (2, 0), (-1, 0), (0, 3), (True, 0), (1, False), [1, 0], (1, 0, 0), "10")
SPOTS_OFF = any_but([(0, 1), (1, 0)], (0, 0), (0, 2), (1, 1), (1, 2), (2, 0), (-2, 1), (0, True), (False, 1), [0, 1], (0, 1, 0), "01")
PILE_ROADS = any_but(
    [], *spoilt(("rrddr", "drdrr")), ("drdrr", "rrddr"), ("rrddr",), ("rrddr", "drdrr", "drdrr"), ("rrddr", "drdr"), ("rrddr", "drdrrr"),
    ("rrddr", "drdrd"), ("rrddr", "drdrx"), ("rrddr", "drdrR"), "rrddr", ["rrddr", "drdrr"], (tuple("rrddr"), tuple("drdrr")),
)
POINT_CHAINS = any_but(
    [((1, 0),), ((0, 1),)], (), ((0, 0), (0, 1)), ((0, 0), (1, 0)), ((1, 1), (0, 0)), ((0, 0), (0, 0)), ((41, 0),), ((0, 41),), ((-1, 0),),
    ((0, -1),), ((0, True),), ((False, 0),), ([0, 0],), [(0, 0)], ((0, 0, 0),), ((0,),), tuple((at, at) for at in range(11)),
    ((0, 0), (1, 1), (2, 1)), ((0, 0), (1, 1), (1, 2)), ((0, 0), None), ((0, "0"),), ((40, 40), (41, 41)),
)
TILE_POINTS = any_but(
    [(0, -1), (0, 2), (1, 1), (-1, 0), (1, 0)], (0, 0), (0, 1), (-1, -1), (2, 2), (0, 3), (True, 0), (1, True), [1, 0], (1, 0, 0), "10",
)
CUBE_TILES = ((0, -1, -1), (1, 1, 0), (2, 0, 1))
TILES = any_but(
    [], *spoilt(CUBE_TILES), ((0, 0, 0), (1, 0, 0), (2, 0, 1)), ((0, 0, 0), (1, 1, 0), (2, 0, 0)), ((1, 0, 0), (0, 0, 0), (2, 0, 0)),
    ((0, 0, 0), (0, 0, 0), (1, 0, 0)), ((0, 0, 0), (1, 0, 0), (3, 0, 0)), ((-1, 0, 0), (0, 0, 0), (1, 0, 0)), ((0, -2, -2), (1, 2, 0), (2, 0, 2)),
    ((0, 1, 1), (1, -1, 0), (2, 0, -1)), ((False, 0, 0), (1, 0, 0), (2, 0, 0)), ((0, 0, 0), (True, 0, 0), (2, 0, 0)),
    ((0, 10 ** 119, 0), (1, 0, 0), (2, 0, 0)), [(0, 0, 0), (1, 0, 0), (2, 0, 0)],
)
FULL = ((4, 4, 3, 2), (4, 3, 2, 1), (3, 2, 1, 0), (2, 1, 0, 0))
# Piles that are like themselves by two of the three words: all but "filled", all but "tipped", all but "turned".
HALF_FULL = [
    ((4, 4, 3, 2), (4, 3, 3, 1), (3, 3, 2, 0), (2, 1, 0, 0)), ((4, 4, 4, 1), (3, 3, 2, 1), (3, 2, 1, 1), (3, 0, 0, 0)),
    ((4, 3, 3, 2), (3, 2, 2, 1), (3, 2, 2, 1), (2, 1, 1, 0)),
]
FULL_PILES = any_but(
    [], *HALF_FULL, *spoilt(FULL), ((2, 1), (1, 0)), ((4, 4, 2, 2), (4, 4, 2, 2), (2, 2, 0, 0), (2, 2, 0, 0))[::-1], ((4,) * 4,) * 2 + ((0,) * 4,) * 2,
    ((2,) * 4,) * 4, ((4, 4, 4, 4), (4, 4, 2, 2), (2, 2, 0, 0), (0, 0, 0, 0)), ((0,) * 4,) * 4, ((4,) * 4,) * 4,
    ((4, 4, 4, 2), (4, 3, 2, 1), (3, 2, 1, 0), (2, 0, 0, 0)),
)
TABLES = any_but(
    [((1,),)], *[value for value in spoilt(((1, 2), (3, 98))) if "99" not in repr(value)], ((1, 2), (3, 0)), ((1, 2), (3, 100)), ((-1,),), ((0,),), ((100,),), ((1, 2),), ((1,), (2,)),
    ((1,) * 9,) * 9, ((1,) * 8,) * 9, ((1,) * 9,) * 8, ((1, 2), (3,)), ((1, 2), [3, 4]), [(1,)], ((True,),), (("1",),), (((1,),),),
)
CORNERS = any_but(
    [((1, 0), (0, 0)), ((0, 0), (0, 0))], *[value for value in spoilt(((1, 0), (0, 0))) if repr(value) != "((0, 0), (0, 0))"],
    ((2, 0), (0, 0)), ((1, 1), (1, 0)), ((1, 1), (0, 0)), ((0, 0), (0, 1)), ((1, 0), (0, 1)), ((0,),), ((0, 0, 0),) * 3, ((True, 0), (0, 0)),
    ((-1, 0), (0, 0)), ((2, 2), (2, 2)), ((4, 4), (4, 4)), ((1, 0), (1, 0)), [[1, 0], [0, 0]], ((5, 0), (0, 0)), ((1, -1), (-1, -1)),
)
