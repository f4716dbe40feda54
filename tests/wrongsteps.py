"""Wrong values of facts, bounds, moves, lots, notes, states, steps, scripts and texts."""

from tests.plainfacts import plain_are_bounds, plain_are_facts
from tests.plainnotes import WORDS
from tests.wrongs import ANY, BENCH, TONED, any_but, spoilt

T = (("cell", 0, 1, 1),)
D = ((1, 0), (0, 1))
N = (((1, 1), (2, 1), (1, 1)), ((2, 1), (3, 1), (2, 1)), ((1, 1), (2, 1), (1, 1)))
W, C = (D, N, (1, 1)), (("toggle", (1, 1)), ("scale", (1, 2)), ("mirror",))

MIXED_FACTS = (
    ("cell", 2, 0, -1), ("along", 2, 3, 1), ("down", 3, 2, 0), ("corner", 3, 3, 12), ("least", 3, 0, -40), ("most", 0, 3, 40),
)
FACTS = [value for value in ANY + spoilt(MIXED_FACTS) if not plain_are_facts(3, value)] + [
    (("cell", 0, 3, 1),), (("cell", 3, 0, 1),), (("cell", 0, 0, 2),), (("cell", 0, 0, -2),), (("cell", -1, 0, 0),),
    (("along", 3, 0, 0),), (("along", 0, 4, 0),), (("along", 0, 0, 2),), (("along", 0, 0, -1),), (("down", 4, 0, 0),),
    (("down", 0, 3, 0),), (("down", 0, 0, -1),), (("corner", 4, 0, 0),), (("corner", 0, 4, 0),), (("corner", 0, 0, 13),),
    (("corner", 0, 0, -1),), (("least", 4, 0, 0),), (("least", 0, 4, 0),), (("least", 0, 0, 41),), (("least", 0, 0, -41),),
    (("most", 0, 0, 41),), (("most", 0, 0, -41),), (("most", -1, 0, 0),), T * 41, [T[0]], ("cell", 0, 1, 1), (["cell", 0, 1, 1],),
    (("cell", 0, 1),), (("cell", 0, 1, 1, 1),), (("Cell", 0, 1, 1),), (("cells", 0, 1, 1),), (("cell", 0, True, 1),),
    (("cell", False, 1, 1),), (("cell", 0, 1, True),), (("across", 0, 1, 1),), ((b"cell", 0, 1, 1),), (((), 0, 1, 1),),
    (([], 0, 1, 1),), ((TONED, 0, 1, 1),), T + (None,), T + ((),), (("cell", 0, 1, "1"),), (("most", 0, 0, 10 ** 119),),
]

MIXED_BOUNDS = ((0, 3, -40), (3, 0, 40), (1, 2, 1))
BOUNDS = [value for value in ANY + spoilt(MIXED_BOUNDS) if not plain_are_bounds(3, value)] + [
    ((0, 4, 0),), ((4, 0, 0),), ((-1, 0, 0),), ((0, -1, 0),), ((0, 0, 41),), ((0, 0, -41),), ((0, 0, 0),) * 41, [(0, 0, 0)],
    ([0, 0, 0],), ((0, 0),), ((0, 0, 0, 0),), ((0, 0, True),), ((False, 0, 0),), ((0, True, 0),), (("0", 0, 0),), (0, 0, 0),
    ((0, 0, None),), ((0, 0, 0), None), ((0, 0, 10 ** 119),), ((0, 0, TONED),),
]

PRIMES = [value for value in ANY if repr(value) not in ("2", "3", "13", "61")] + [
    4, 6, 9, 15, 25, 91, 121, 899, 961, 993, 995, 996, 998, 999, 1001, 1009, -2, -3, 997 * 997, "7", (7,), [7],
]

MOVES = any_but([], "Half", "half ", " half", "tip", "mirror", "upend", "quarters", "", "turned", ("half",), ["half"], b"half", "halfquarter")
# Of the moves themselves only some are counted.
UNCOUNTED = MOVES + ["stay", "three", "tipped", "slanted"]
LOTS = any_but(
    [], "half", ["half"], ("stay",), ("half", "stay"), ("half", "half"), ("tipped", "half"), ("half", "mirrored", "half"), ("half", None),
    ("Half",), ("half", "turned"), (("half",),), (b"half",), tuple(WORDS), tuple(word for word in WORDS if word != "stay") + ("upended",),
    ("three", "quarter"), (TONED,), ("half", BENCH), (), tuple(WORDS)[::-1], ("half", "mirrored", "quarter", "stay"),
)
KEEPING = LOTS + [
    ("mirrored",), ("quarter",), ("three",), ("upended",), ("half", "mirrored"), ("half", "quarter"), ("half", "upended"),
    ("slanted", "three"), ("half", "slanted", "tipped", "upended"), ("half", "mirrored", "slanted", "tipped"),
]

INNER_POINTS = any_but(
    [(1, 1), (1, 2), (2, 1), (2, 2)], (0, 0), (0, 1), (1, 0), (3, 1), (1, 3), (3, 3), (-1, 1), (1, -1), (True, 1), (1, True), (True, True),
    [1, 1], (1, 1, 1), (1,), ("1", "1"), "11", (1, 10 ** 119),
)
# Of two sides only one point is an inner one.
ONE_POINT = INNER_POINTS + [(1, 2), (2, 1), (2, 2)]
POINTS = any_but(
    [(row, column) for row in range(3) for column in range(3)], (0, 3), (3, 0), (-1, 0), (0, -1), (True, 1), (1, True), (False, 0), (0, False), [1, 1],
    (1, 1, 1), (1,), ("1", "1"), "11", (1, 10 ** 119), slice(0, 1),
)


def right_share(value):
    return repr(value) in ("(1, 1)", "(99, 1)", "(1, 99)", "(2, 99)", "(99, 2)", "(1, 2)", "(2, 1)", "(1, 3)", "(3, 1)", "(2, 3)")


# A note may be any share, so of spoilt notes some are right.
def right_notes(value):
    return isinstance(value, tuple) and [type(row) for row in value] == [tuple] * 3 and all(
        len(row) == 3 and all(right_share(note) for note in row) for row in value
    )


def other_note(note):
    """The notes N with another one in the middle."""
    return (N[0], (N[1][0], note, N[1][2]), N[2])


SHARES = any_but(
    [(1, 1)], (0, 1), (1, 0), (2, 2), (2, 4), (3, 6), (-1, 2), (1, -2), (-1, -2), (1,), (1, 2, 3), [1, 2], (True, 2), (1, True), (1, None), "1/2",
    ("1", "2"), 2, 1, (1000, 10), (10 ** 30, 10 ** 29), (0, 0),
)
NOTES = [value for value in ANY + spoilt(N) if not right_notes(value)] + [other_note(share) for share in SHARES] + [
    list(N), N[:2], N + N[:1], tuple(row[:2] for row in N), (N[0], list(N[1]), N[2]), (((1, 1),) * 4,) * 4,
]


def right_state(value):
    if not isinstance(value, tuple) or len(value) != 3 or repr(value[0]) != repr(D) or not right_notes(value[1]):
        return False
    return repr(value[2]) in [repr((row, column)) for row in range(3) for column in range(3)]


STATES = [value for value in ANY + spoilt(W) if not right_state(value)] + [(D, notes, (1, 1)) for notes in NOTES[::3]] + [
    (D, N, (1, 3)), (D, N, (3, 1)), (D, N, (-1, 0)), (D, N, (True, 1)), (D, N, [1, 1]), (D, N, (1, 1, 1)), (D, N), (D, N, (1, 1), ()),
    [D, N, (1, 1)], (N, D, (1, 1)), (((1,),), N, (1, 1)), (((1, 0), (1, 0)), N, (1, 1)), (D, N, None), (TONED, N, (1, 1)), (D, TONED, (1, 1)),
]

STEP_SHARES = SHARES + [(1001, 1), (1, 1001), (1001, 1000)]
STEP_POINTS = any_but(
    [(0, 1), (1, 0), (1, 1)], (13, 0), (0, 13), (-1, 0), (0, -1), (True, 0), (0, False), [1, 1], (1, 1, 1), (1,), "1-1", ("1", "1"),
)
STEP_ORDERS = any_but(
    [(0, 1), (1, 0), (0, 1, 2)], tuple(range(13)), (0, 0), (1, 2), (0, True), [0, 1], (-1, 0), "01", (0, 1, 3), (0, 2),
)
STEPS = any_but(
    [], *[("toggle", value) for value in STEP_POINTS], *[("go", value) for value in STEP_POINTS[::2]],
    *[("set", value, (1, 2)) for value in STEP_POINTS[::2]], *[("set", (1, 1), value) for value in STEP_SHARES],
    *[("scale", value) for value in STEP_SHARES], *[("meet", value) for value in STEP_ORDERS], *[("join", value) for value in STEP_ORDERS[::2]],
    *[("colour", value) for value in ANY + [2, -1, "1"] if repr(value) not in ("0", "1")],
    ("tip", 1), ("tip", ()), ("mirror", (1, 1)), ("upend", None), ("invert", (1, 2)), "tip", ["tip"], ("Tip",), ("tipped",), ("mirrored",), ("",),
    ("toggle",), ("toggle", (1, 1), (1, 1)), ("toggle", 1, 1), ("colour",), ("colour", 0, 0), ("scale",), ("scale", 1, 2), ("set", (1, 1)),
    ("set", (1, 2)), ("set", (1, 2), (1, 1), (1, 1)), ("set", (1, 2), (2, 2)), ("go",), ("meet",), ("meet", 0, 1), ("meet", ()), ("join",),
    ("turn", (1, 1)), ["toggle", (1, 1)], (("toggle",), (1, 1)), (TONED, (1, 1)), (b"tip",), (None,), ([],), ([], (1, 1)),
)
SCRIPTS = any_but(
    [()], [("tip",)], ("tip",), (("tip",),) * 13, ("tip", "tip"), (("tip",), None), (("tip",), ("tip", 1)), C + (("toggle", (13, 1)),), list(C),
    *[(step,) for step in STEPS[::3]], *[C + (step,) for step in STEPS[::11]], "tip", (["tip"],), ((),),
)
SQUARE_TEXTS = any_but(
    ["+0/0+"], "", "0", "-", "++", "+0/+0", "+0/0+/", "/+0/0+", "+0//0+", "+0/0+ ", " +0/0+", "+0 /0+", "+0\n0+", "+0/0+\n", "+0/0", "+0/0+0", "10/01",
    "+O/O+", "0+0/+-+/0+", "0+0/+-+/0+0/", "+0,0+", "+0\\0+", "++0/0+0/00+", "/".join(["0" * at + "+" + "0" * (12 - at) for at in range(13)]),
)
NOTES_TEXTS = any_but(
    [], "", " ", "1", "1 2", "1 2;3 4", "1 2 ; 3 4", "1 2;  3 4", "1 2; 3 4 ", " 1 2; 3 4", "1  2; 3 4", "1 2; 3 4;", "1 2; 3 4; ", "1 2; 3", "1 2; 3 4 5",
    "1 2; 3 4; 5 6", "01 2; 3 4", "1 02; 3 4", "1 2/1; 3 4", "1 2/2; 3 4", "1 2/4; 3 4", "1 2/03; 3 4", "1 0; 3 4", "1 0/1; 3 4", "1 1/0; 3 4", "1 -2; 3 4",
    "1 +2; 3 4", "1 2/-3; 3 4", "1 2/; 3 4", "1 /2; 3 4", "1 2/3/4; 3 4", "1 2 /3; 3 4", "1 2/ 3; 3 4", "1 a; 3 4", "1 2; 3 4\n", "1 2\n3 4", "1 2,3 4",
    "1 2. 3 4", "1 1_0; 3 4", "1 2;\n3 4", "1 2; 3 0x4", "1 2; 3 \u0664", "1 2; 3 \u00b2", "1 2; 3 \uff14", "1 2; 3 \u0664/5", "1\t2; 3 4", "1 2; 3 4/\u0665",
)
SCRIPT_TEXTS = any_but(
    [""], " ", "\n", "tip\n", "\ntip", "tip\n\ntip", "tip ", " tip", "tip tip", "Tip", "tip 0", "mirrored", "tip\r\ntip", "tip;tip", "toggle", "toggle ",
    "toggle 1", "toggle 1-", "toggle -1", "toggle 1-1-1", "toggle 1 1", "toggle  1-1", "toggle 1-1 ", "toggle 01-1", "toggle 1-01", "toggle 1--1", "toggle 13-1",
    "toggle 1-13", "toggle 1 - 1", "toggle (1, 1)", "toggle 1-\u0661", "toggle 1-\u00b9", "colour", "colour 2", "colour 00", "colour 01", "colour -1", "colour 1 ", "colour  1",
    "colour 1 1", "colour \u0661", "scale", "scale 2/4", "scale 2/1", "scale 0", "scale 1001", "scale 1/1001", "scale 1/02", "scale 02", "scale 1/ 2", "scale 1 2", "scale 1/2/3",
    "set 1-1", "set 1-1 2/2", "set 1-1  2", "set 1-1 2 ", "set 2", "set 1/1 2", "set 1-1 2 3", "set 1-1 02", "go", "go 1", "go 1-1 1-1", "meet", "meet ", "meet 0,1", "meet 0  1",
    "meet 0 1 ", "meet 0 2", "meet 0 0", "meet 01", "meet 00 1", "meet 0 1 02", "meet " + " ".join(map(str, range(13))), "join -0", "join", "invert 1", "\n".join(["tip"] * 13), "toggle 1-1\n ",
)
