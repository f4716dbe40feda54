"""What each function does with wrong arguments: which error comes, and which one of several comes first."""

import importlib
import inspect
import unittest

from signsquared import errors
from tests import wrongs, wrongsteps
from tests.plainly import L, P, Q, U, X, order_to_square, plain_heights, plain_ice, plain_loops, plain_roads, plain_sorts
from tests.wrongs import integers_but
from tests.wrongsteps import C, N, T, W

TWELVE = wrongs.identity(12)


def unit(sides):
    return wrongs.identity(sides)


def square(value):
    return value, "InvalidSquare", wrongs.SQUARES


def sides(value, most=12):
    return value, "InvalidSides", integers_but(1, most)


def number(value, low, high):
    return value, "InvalidNumber", integers_but(low, high)


def count(value):
    return value, "InvalidNumber", [some for some in wrongs.INTEGERS if some < 0] + wrongs.NO_INTEGERS


def free(value):
    return value, None, []


def is_wide(box):
    """Whether a value is wrong for a box only because its sides are greater than 12."""
    return isinstance(box, tuple) and len(box) == 3 and all(side in range(1, 41) and side is not True for side in box)


LINES = (1, 2, 3), "InvalidLines", wrongs.NUMBERS_OF_LINES
TIES = (1, 0, 5, 4, 3, 2), "InvalidTies", wrongs.TIES
PLACE = 4, "InvalidPlace", wrongs.PLACES
SIZE = 2, "InvalidSize", integers_but(1, 11)
SIZE_TO_TEN = 2, "InvalidSize", integers_but(1, 10)
SIZE_FROM_TWO = 2, "InvalidSize", integers_but(2, 11)
LAYING = wrongs.UPRIGHT, "InvalidLaying", wrongs.LAYINGS
COLUMN = 1, "InvalidColumn", integers_but(0, 2)
TILE_POINT = (0, 2), "InvalidPoint", wrongs.TILE_POINTS
SIZE_TO_SIXTY = 2, "InvalidSize", integers_but(1, 60)
SHARE = 3, "InvalidNumber", integers_but(1, 99)
BOX = (2, 3, 2), "InvalidBox", wrongs.BOXES
PILE = wrongs.HEAP, "InvalidPile", wrongs.PILES
UNIT_BOX = (1, 1, 1), "InvalidBox", wrongs.BOXES
WIDE = (2, 2, 2), "InvalidBox", [box for box in wrongs.BOXES if not is_wide(box)] + [(41, 1, 1), (1, 41, 1), (1, 1, 41)]
WORD = "tipped", "InvalidWord", wrongs.LIKENESSES
HALF = 2, "InvalidHalf", integers_but(1, 6)
CHAIN = ((0, 2), (1, 3)), "InvalidPoints", wrongs.POINT_CHAINS
UPPER = plain_ice(X), "InvalidIce", wrongs.ICES
POINT = (1, 1), "InvalidPoint", wrongs.POINTS

FACTS = T, "InvalidFacts", wrongsteps.FACTS
BOUNDS = ((1, 1, 2),), "InvalidBounds", wrongsteps.BOUNDS
MOVE = "quarter", "InvalidMove", wrongsteps.MOVES
LOT = ("half", "tipped"), "InvalidLot", wrongsteps.LOTS
KEEPING = ("half", "tipped"), "InvalidLot", wrongsteps.KEEPING
NOTES = N, "InvalidNotes", wrongsteps.NOTES
INNER = (1, 2), "InvalidPoint", wrongsteps.INNER_POINTS
STATE = W, "InvalidState", wrongsteps.STATES
STEP = ("toggle", (1, 1)), "InvalidStep", wrongsteps.STEPS
SCRIPT = C, "InvalidScript", wrongsteps.SCRIPTS


def text(value, bad):
    return value, "InvalidText", bad


# For each module each function, with a right value, the error, and wrong values for each argument in its place.
CALLS = {
    "squares": {
        "is_square(value)": [free(X)],
        "order_square(order)": [((0, 1, 2), "InvalidOrder", wrongs.ORDERS)],
        "square_order(square)": [square(X)],
        "unit_square(sides)": [sides(3)],
        "last_square(sides)": [sides(3)],
        "minuses(square)": [square(X)],
        "overtakings(square)": [square(X)],
        "first_column(square)": [square(X)],
        "tipped(square)": [square(X)],
        "mirrored(square)": [square(X)],
        "upended(square)": [square(X)],
    },
    "squarelists": {
        "squares(sides)": [sides(3)],
        "square_number(square)": [square(X)],
        "square_with(sides, number)": [sides(3), count(3)],
        "count_squares(sides)": [sides(3, 60)],
        "count_first(sides, column)": [sides(3, 60), COLUMN],
    },
    "heights": {
        "heights(square)": [square(X)],
        "is_heights(value)": [free(plain_heights(X))],
        "square_by_heights(value)": [(plain_heights(X), "InvalidHeights", wrongs.HEIGHTS)],
        "hollows(square)": [square(X)],
        "hills(square)": [square(X)],
        "raised(square, point)": [square(U), POINT],
        "lowered(square, point)": [square(X), POINT],
        "rise(square)": [square(X)],
    },
    "triangles": {
        "triangle(square)": [square(X)],
        "is_triangle(value)": [free(X)],
        "square_by_triangle(value)": [(((1,), (0, 2), (0, 1, 2)), "InvalidTriangle", wrongs.TRIANGLES)],
    },
    "below": {
        "is_below(one, other)": [square(X), square(P)],
        "below_paper(one, other)": [square(X), square(P)],
        "meet(one, other)": [square(X), square(P)],
        "join(one, other)": [square(X), square(P)],
        "way_up(one, other)": [square(X), square(P)],
        "squares_between(one, other)": [square(X), square(P)],
        "count_ways_up(one, other)": [square(X), square(P)],
    },
    "keys": {
        "keys(sides)": [sides(3)],
        "key_with(sides, point, height)": [
            sides(3), POINT, (2, "InvalidNumber", integers_but(2, 2, 0, 1, 3, 4)),
        ],
        "keys_below(square)": [square(X)],
        "joined_orders(value)": [(((0, 1), (1, 0)), "InvalidOrders", wrongs.LISTS_OF_ORDERS)],
        "orders_under(square)": [square(X)],
        "orders_over(square)": [square(X)],
    },
    "ice": {
        "ice_of(square)": [square(X)],
        "is_ice(value)": [free(X)],
        "square_by_ice(value)": [UPPER],
        "cell_sorts(square)": [square(X)],
        "square_by_sorts(value)": [(plain_sorts(X), "InvalidSorts", wrongs.SORTS)],
        "sort_counts(square)": [square(X)],
        "ice_points(value)": [UPPER],
        "ice_turned(value, point)": [UPPER, POINT],
    },
    "iceroads": {
        "ice_roads(square)": [square(X)],
        "are_ice_roads(value)": [free(X)],
        "square_by_ice_roads(value)": [(plain_roads(X), "InvalidRoads", wrongs.ROADS)],
        "touchings(square)": [square(X)],
        "count_touching(sides, many)": [sides(3), count(1)],
    },
    "icesums": {
        "ice_counts(square)": [square(X)],
        "ice_terms(sides)": [sides(3)],
        "ice_sum(sides, weights)": [sides(3), ((1, 2, 3), "InvalidWeights", wrongs.WEIGHTS)],
    },
    "icelines": {
        "line_weight(square, rows, columns, step)": [square(X), LINES, LINES, number(1, -1000, 1000)],
        "line_sum(rows, columns, step)": [LINES, LINES, number(1, -1000, 1000)],
        "line_quotient(rows, columns, step)": [LINES, LINES, number(1, -1000, 1000)],
    },
    "fullloops": {
        "full_loops(square)": [square(X)],
        "are_full_loops(sides, value)": [sides(3), free(X)],
        "square_by_loops(sides, links)": [sides(3), (plain_loops(X), "InvalidLoops", wrongs.LOOPS)],
        "ties_of(square)": [square(X)],
        "way_from(square, end)": [square(X), (0, "InvalidEnd", wrongs.ENDS)],
        "loop_rings(square)": [square(X)],
    },
    "loopturns": {
        "turnable_faces(square)": [square(X)],
        "face_turned(square, face)": [square(X), ((0, 0), "InvalidFace", wrongs.FACES)],
        "colour_turned(square, colour)": [square(X), number(0, 0, 1)],
        "led_round(square, times)": [square(X), number(3, -1000, 1000)],
        "round_size(square)": [square(X)],
    },
    "ringties": {
        "is_ties(value)": [free(X)],
        "ties_pairs(ties)": [TIES],
        "ties_by_pairs(value)": [(((0, 5), (1, 2), (3, 4)), "InvalidPairs", wrongs.PAIRS)],
        "ties_turned(ties, steps)": [TIES, number(1, -1000, 1000)],
        "ties_mirrored(ties)": [TIES],
        "all_ties(pairs)": [number(3, 1, 6)],
        "count_ties(pairs)": [number(3, 1, 60)],
    },
    "tiecounts": {
        "squares_tied(ties)": [TIES],
        "count_tied(ties)": [TIES],
        "tie_counts(sides)": [sides(3)],
    },
    "stirring": {
        "stirred(ties, ring_place)": [TIES, PLACE],
        "stirred_by(ties, word)": [TIES, ((5, 0, 3), "InvalidWord", wrongs.WORDS)],
        "stir_way(one_ties, other_ties)": [TIES, TIES],
        "stir_shares(pairs)": [number(3, 1, 5)],
        "shares_stay(pairs, value)": [number(3, 1, 5), free((2, 1, 1, 2, 1))],
    },
    "meanders": {
        "rings_between(one_ties, other_ties)": [TIES, TIES],
        "ring_counts(pairs)": [number(3, 1, 5)],
        "ring_determinant(pairs, number)": [number(3, 1, 5), number(7, -1000, 1000)],
    },
    "floors": {
        "floor_cells(size)": [SIZE],
        "is_floor_laying(size, value)": [SIZE, free(wrongs.UPRIGHT)],
        "upright_laying(size)": [SIZE],
        "floor_layings(size)": [SIZE],
        "flat_dominoes(size, laying)": [SIZE, LAYING],
    },
    "couples": {
        "do_fit(small, great)": [square(U), square(X)],
        "floor_laying(small, great)": [square(X), square(Q)],
        "floor_couple(size, laying)": [SIZE, LAYING],
        "greats_around(square)": [(X, "InvalidSquare", wrongs.SQUARES + [TWELVE])],
        "smalls_within(square)": [(X, "InvalidSquare", wrongs.SQUARES + [((1,),)])],
    },
    "blocks": {
        "turn_blocks(size, laying)": [SIZE, LAYING],
        "block_turned(size, laying, cell)": [SIZE, LAYING, ((2, 1), "InvalidCell", wrongs.CELLS)],
        "laying_rise(size, laying)": [SIZE, LAYING],
        "laying_meet(size, laying, other)": [SIZE, LAYING, LAYING],
        "turns_between(size, laying, other)": [SIZE, LAYING, LAYING],
    },
    "shuffles": {
        "slid_dominoes(size, laying)": [SIZE_TO_TEN, LAYING],
        "grown_laying(size, laying, signs)": [SIZE_TO_TEN, LAYING, ((0, 1, 0), "InvalidSigns", wrongs.SIGNS)],
        "shrunk_laying(size, laying, signs)": [SIZE_FROM_TWO, LAYING, ((), "InvalidSigns", wrongs.NO_SIGNS)],
        "growth_signs(size, laying)": [SIZE_FROM_TWO, LAYING],
    },
    "condensing": {
        "count_floor(size)": [SIZE_TO_SIXTY],
        "count_flat(size, many)": [SIZE_TO_SIXTY, number(4, 0, 10 ** 4)],
        "rise_counts(size)": [SIZE],
        "condensed(table, share)": [(((1, 2), (3, 4)), "InvalidTable", wrongs.TABLES), SHARE],
        "share_sum(sides, share)": [sides(3), SHARE],
    },
    "piles": {
        "is_pile(box, value)": [BOX, free(wrongs.HEAP)],
        "cubes_of(box, pile)": [BOX, PILE],
        "pile_with(box, cubes)": [BOX, ([(0, 0, 1), (0, 0, 0)], "InvalidCubes", wrongs.CUBES)],
        "pile_turned(box, pile)": [BOX, PILE],
        "pile_tipped(box, pile)": [BOX, PILE],
        "pile_filled(box, pile)": [BOX, PILE],
        "is_like_pile(box, pile, word)": [BOX, PILE, WORD],
        "spots_on(box, pile)": [BOX, PILE],
        "spots_off(box, pile)": [BOX, PILE],
        "cube_on(box, pile, spot)": [BOX, PILE, ((0, 2), "InvalidSpot", wrongs.SPOTS_ON)],
        "cube_off(box, pile, spot)": [BOX, PILE, ((1, 0), "InvalidSpot", wrongs.SPOTS_OFF)],
        "least_turns(box, pile, other)": [BOX, PILE, PILE],
    },
    "pileroads": {
        "roads_of(box, pile)": [BOX, PILE],
        "are_roads(box, value)": [BOX, free(("rrddr", "drdrr"))],
        "pile_by_roads(box, roads)": [BOX, (("rrddr", "drdrr"), "InvalidRoads", wrongs.PILE_ROADS)],
        "road_points(box, pile, row)": [BOX, PILE, (1, "InvalidIndex", integers_but(0, 1))],
        "count_apart(starts, ends)": [CHAIN, CHAIN],
        "road_table(box)": [BOX],
    },
    "pilefloors": {
        "tiles_of(box, pile)": [BOX, PILE],
        "is_laying(box, value)": [UNIT_BOX, free(wrongs.CUBE_TILES)],
        "pile_by_tiles(box, tiles)": [UNIT_BOX, (wrongs.CUBE_TILES, "InvalidTiles", wrongs.TILES)],
        "points_up(box, pile)": [BOX, PILE],
        "points_down(box, pile)": [BOX, PILE],
        "tiles_turned(box, pile, point)": [BOX, PILE, TILE_POINT],
    },
    "pilecounts": {
        "count_piles(wide)": [WIDE],
        "count_like_piles(wide, word)": [WIDE, WORD],
        "piles(box)": [BOX],
        "count_by_cubes(box)": [BOX],
    },
    "fullpiles": {
        "is_full(half, value)": [HALF, free(wrongs.FULL)],
        "full_piles(half)": [HALF],
        "corner_of(half, pile)": [HALF, (wrongs.FULL, "InvalidPile", wrongs.FULL_PILES)],
        "full_by_corner(half, value)": [HALF, (((1, 0), (0, 0)), "InvalidCorner", wrongs.CORNERS)],
        "count_full(number)": [number(3, 1, 60)],
    },
    "signspreads": {
        "minus_spread(sides)": [sides(3)],
        "overtaking_spread(sides)": [sides(3)],
        "spread_table(sides)": [sides(3)],
        "first_minus_table(sides)": [sides(3)],
        "ends_table(sides)": [sides(3)],
        "count_ends(sides, column, last)": [sides(3), COLUMN, COLUMN],
        "most_minuses(sides)": [sides(3, 10 ** 30)],
        "count_one_minus(sides)": [sides(3, 200)],
    },
    "signsums": {
        "sum_by(sides, number)": [sides(3, 40), number(4, -1000, 1000)],
        "twos_first(sides, column)": [sides(3, 40), COLUMN],
        "sum_by_two(sides, number, other)": [sides(3, 40), number(4, -1000, 1000), number(-5, -1000, 1000)],
        "twos_rest(sides, modulus)": [sides(3, 10 ** 30), number(5, 1, 10 ** 12)],
        "is_count_odd(sides)": [sides(3, 10 ** 30)],
        "count_power(sides, prime)": [sides(6, 500), (13, "InvalidPrime", wrongsteps.PRIMES)],
    },
    "factlists": {
        "are_facts(sides, value)": [sides(3), free(T)],
        "goes_with(square, facts)": [square(X), FACTS],
        "count_told(sides, facts)": [sides(3), FACTS],
        "first_told(sides, facts)": [sides(3), FACTS],
        "last_told(sides, facts)": [sides(3), FACTS],
        "told_with(sides, facts, number)": [sides(3), FACTS, count(1)],
        "squares_told(sides, facts)": [sides(3), FACTS],
    },
    "sures": {
        "sure_cells(sides, facts)": [sides(3), FACTS],
        "height_bounds(sides, facts)": [sides(3), FACTS],
        "least_told(sides, facts)": [sides(3), FACTS],
        "greatest_told(sides, facts)": [sides(3), FACTS],
        "clash_in(sides, facts)": [sides(3), FACTS],
    },
    "fewcells": {
        "fewest_cells(square)": [square(X)],
        "fewest_points(square)": [square(X)],
        "cell_questions(sides, facts)": [sides(3), FACTS],
        "next_cell(sides, facts)": [sides(3), FACTS],
        "cell_paper(sides, facts)": [sides(3), FACTS],
        "is_cell_paper(sides, facts, value)": [sides(3), FACTS, free(("told", X))],
    },
    "bounded": {
        "least_above(sides, bounds)": [sides(3), BOUNDS],
        "greatest_under(sides, bounds)": [sides(3), BOUNDS],
        "bounds_go(sides, lows, highs)": [sides(3), BOUNDS, BOUNDS],
        "bounds_paper(sides, lows, highs)": [sides(3), BOUNDS, BOUNDS],
    },
    "likemoves": {
        "moved_by(square, move)": [square(X), MOVE],
        "move_behind(move, last)": [MOVE, MOVE],
        "moves_made(lot)": [LOT],
        "own_moves(square)": [square(X)],
        "is_like(square, lot)": [square(X), LOT],
        "all_looks(square)": [square(X)],
    },
    "likelists": {
        "squares_like(sides, lot)": [sides(3), LOT],
        "count_like(sides, lot)": [sides(3), LOT],
        "told_cells(sides, lot)": [sides(3), LOT],
        "count_looks(sides)": [sides(3)],
    },
    "likecounts": {
        "count_by_move(sides, move)": [sides(5, 60), ("half", "InvalidMove", wrongsteps.UNCOUNTED)],
    },
    "likenear": {
        "like_below(square, lot)": [square(P), KEEPING],
        "like_above(square, lot)": [square(P), KEEPING],
        "apart_squares(one, other)": [square(X), square(P)],
        "nearest_like(square, lot)": [square(P), LOT],
    },
    "notes": {
        "are_notes(sides, value)": [sides(2), free(N)],
        "plain_notes(square)": [square(X)],
        "notes_toggled(sides, notes, point)": [sides(2), NOTES, ((1, 1), "InvalidPoint", wrongsteps.ONE_POINT)],
        "notes_by_colour(sides, notes, colour)": [sides(2), NOTES, number(0, 0, 1)],
    },
    "toggles": {
        "toggled(square, point)": [square(X), INNER],
        "toggled_colour(square, colour)": [square(X), number(1, 0, 1)],
        "apart(one, other)": [square(X), square(P)],
        "toggle_way(one, other)": [square(X), square(P)],
        "is_toggle_way(one, other, value)": [square(X), square(P), free(((2, 1),))],
    },
    "lifesteps": {
        "is_state(value)": [free(W)],
        "is_step(value)": [free(C[0])],
        "is_script(value)": [free(C)],
        "stepped(state, step)": [STATE, STEP],
        "all_stepped(state, script)": [STATE, SCRIPT],
        "step_back(state, step)": [STATE, STEP],
    },
    "lifetexts": {
        "square_text(square)": [square(X)],
        "notes_text(sides, notes)": [sides(2), NOTES],
        "script_text(script)": [SCRIPT],
        "read_square(text)": [text("+0/0+", wrongsteps.SQUARE_TEXTS)],
        "read_notes(sides, text)": [sides(1), text("1 2; 3 4/5", wrongsteps.NOTES_TEXTS)],
        "read_script(text)": [text("tip\ngo 0-1", wrongsteps.SCRIPT_TEXTS)],
    },
}


def functions():
    """The tuples of each function, its name with its arguments, and what is told of these."""
    told = []
    for module, calls in CALLS.items():
        for call, arguments in calls.items():
            function = getattr(importlib.import_module("signsquared." + module), call.split("(")[0])
            told.append((module, function, call, arguments))
    return told


def caught(function, arguments):
    """The name of the error that a call raises, or None."""
    try:
        function(*arguments)
    except errors.SignError as error:
        return error.__class__.__name__
    return None


class Arguments(unittest.TestCase):
    def test_each_function_stands_in_its_own_module(self):
        for module, function, call, _ in functions():
            with self.subTest(call=call):
                self.assertEqual(function.__module__, "signsquared." + module)
                self.assertEqual(function.__name__ + str(inspect.signature(function)), call)

    def test_right_arguments_raise_nothing(self):
        for _, function, call, arguments in functions():
            with self.subTest(call=call):
                self.assertIsNone(caught(function, [right for right, _, _ in arguments]))

    def test_each_wrong_argument_raises_its_error(self):
        for _, function, call, arguments in functions():
            for at, (_, error, bad) in enumerate(arguments):
                for value in bad:
                    tried = [right for right, _, _ in arguments]
                    tried[at] = value
                    with self.subTest(call=call, at=at, value=repr(value)[:80]):
                        self.assertEqual(caught(function, tried), error)

    def test_of_two_wrong_arguments_the_first_one_is_told(self):
        for _, function, call, arguments in functions():
            checked = [at for at, (_, error, _) in enumerate(arguments) if error]
            for first in checked:
                for second in checked:
                    if first < second:
                        self.both_wrong(function, call, arguments, first, second)

    def both_wrong(self, function, call, arguments, first, second):
        for bad in arguments[first][2][::5]:
            for worse in arguments[second][2][::9]:
                tried = [right for right, _, _ in arguments]
                tried[first], tried[second] = bad, worse
                with self.subTest(call=call, bad=repr(bad)[:80], worse=repr(worse)[:80]):
                    self.assertEqual(caught(function, tried), arguments[first][1])

    def test_every_returned_list_is_new(self):
        for _, function, call, arguments in functions():
            rights = [right for right, _, _ in arguments]
            before = repr(rights)
            once, twice = function(*rights), function(*rights)
            with self.subTest(call=call):
                self.assertEqual(once, twice)
                self.assertEqual(repr(rights), before)
                if isinstance(once, list):
                    self.assertIsNot(once, twice)
                    once.append("spoilt")
                    self.assertEqual(function(*rights), twice)

    def test_each_function_is_told(self):
        for module, calls in CALLS.items():
            names = [call.split("(")[0] for call in calls]
            self.assertEqual(len(names), len(set(names)))
            self.assertIn(module, ("squares", *CALLS))


class Limits(unittest.TestCase):
    def too_many(self, limit, function, *arguments):
        with self.assertRaises(errors.TooMany) as told:
            function(*arguments)
        self.assertEqual(told.exception.limit, limit)

    def test_the_limits_and_one_more(self):
        by_name = {function.__name__: function for _, function, _, _ in functions()}
        by_square = [("square_number", 9), ("orders_under", 5), ("orders_over", 5), ("round_size", 5)]
        by_sides = [("squares", 5, ()), ("square_with", 9, (0,)), ("count_touching", 6, (0,)), ("ice_terms", 5, ()),
                    ("ice_sum", 6, ((1, 1, 1),))]
        for name, limit in by_square:
            by_name[name](unit(limit))
            for more in (limit + 1, 12):
                self.too_many(limit, by_name[name], unit(more))
        for name, limit, rest in by_sides:
            by_name[name](limit, *rest)
            for more in (limit + 1, 12):
                self.too_many(limit, by_name[name], more, *rest)
        for name in ("squares_between", "count_ways_up"):
            by_name[name](unit(4), unit(4))
            self.too_many(4, by_name[name], unit(5), unit(5))
        by_name["line_sum"]((0,) * 6, (1,) * 6, 2)
        self.too_many(6, by_name["line_sum"], (0,) * 7, (1,) * 7, 2)
        self.too_many(6, by_name["line_sum"], (0,) * 12, (1,) * 12, 2)

    def test_the_limit_comes_last(self):
        by_name = {function.__name__: function for _, function, _, _ in functions()}
        for name, arguments, error in (
            ("square_with", (10, -1), "InvalidNumber"),
            ("square_with", (10, "a"), "InvalidNumber"),
            ("square_with", (13, 0), "InvalidSides"),
            ("square_with", (10, 10 ** 119), "TooMany"),
            ("count_touching", (7, -1), "InvalidNumber"),
            ("count_touching", (7, True), "InvalidNumber"),
            ("count_touching", (7, 10 ** 119), "TooMany"),
            ("ice_sum", (7, (1, 1)), "InvalidWeights"),
            ("ice_sum", (7, (1, 1, 1001)), "InvalidWeights"),
            ("line_sum", ((0,) * 7, (0,) * 7, 1001), "InvalidNumber"),
            ("line_sum", ((0,) * 7, (0,) * 6, 0), "InvalidLines"),
            ("line_sum", ((0,) * 7, (0,) * 6, 1001), "InvalidLines"),
            ("squares_between", (unit(5), unit(6)), "Unlike"),
            ("squares_between", (unit(5), 6), "InvalidSquare"),
            ("count_ways_up", (unit(6), unit(5)), "Unlike"),
            ("count_ways_up", (unit(6), unit(13)), "InvalidSquare"),
        ):
            with self.subTest(name=name, arguments=arguments):
                self.assertEqual(caught(by_name[name], arguments), error)

    def test_a_number_too_great_comes_behind_the_limit(self):
        by_name = {function.__name__: function for _, function, _, _ in functions()}
        for many, limit in ((1, 1), (2, 2), (3, 7), (4, 42), (5, 429), (9, 911835460)):
            by_name["square_with"](many, limit - 1)
            self.assertEqual(caught(by_name["square_with"], (many, limit)), "InvalidNumber")
        self.assertEqual(caught(by_name["square_with"], (3, 10 ** 119)), "InvalidNumber")


class Unlike(unittest.TestCase):
    def test_squares_of_other_sides(self):
        for module, function, call, arguments in functions():
            if call.endswith("(one, other)"):
                self.assertEqual(caught(function, (X, Q)), "Unlike")
                self.assertEqual(caught(function, (Q, X)), "Unlike")
                self.assertEqual(caught(function, (Q, "x")), "InvalidSquare")
                self.assertEqual(caught(function, ([], X)), "InvalidSquare")

    def test_lines_that_do_not_fit(self):
        by_name = {function.__name__: function for _, function, _, _ in functions()}
        for name, arguments, error in (
            ("line_weight", (X, (1, 2), (1, 2), 0), "InvalidLines"),
            ("line_weight", (X, (1, 2), (1, 2), "x"), "InvalidLines"),
            ("line_weight", (X, (1, 2, 3), (1, 2), 1001), "InvalidLines"),
            ("line_weight", (X, (1, 2, 3), (1, 2, 3), 1001), "InvalidNumber"),
            ("line_weight", ("x", (1, 2), (1,), 1001), "InvalidSquare"),
            ("line_quotient", ((1, 1), (0, 5), 1001), "InvalidNumber"),
            ("line_quotient", ((1, 1), (0, 5), None), "InvalidNumber"),
            ("line_quotient", ((1, 1), (0, 5), 1), "InvalidLines"),
            ("line_quotient", ((1, 2), (5, 5), 1), "InvalidLines"),
            ("line_quotient", ((1, 2), (5, 5, 6), 1001), "InvalidLines"),
            ("line_quotient", ((1, 2), (0, 5), 1001), "InvalidNumber"),
            ("line_quotient", ((0,), (0,), 1000), None),
        ):
            with self.subTest(name=name, arguments=arguments):
                self.assertEqual(caught(by_name[name], arguments), error)

    def test_points_and_faces_of_the_wrong_lean(self):
        by_name = {function.__name__: function for _, function, _, _ in functions()}
        for name, arguments in (
            ("raised", (X, (1, 1))), ("raised", (U, (1, 2))), ("raised", (L, (1, 2))), ("raised", (((1,),), (0, 0))),
            ("lowered", (X, (1, 2))), ("lowered", (U, (1, 1))), ("lowered", (TWELVE, (11, 11))),
            ("ice_turned", (plain_ice(U), (1, 2))), ("ice_turned", (plain_ice(((1,),)), (1, 1))),
            ("key_with", (1, (1, 1), 2)), ("key_with", (3, (0, 0), 2)), ("key_with", (3, (3, 3), 2)),
        ):
            with self.subTest(name=name, arguments=arguments):
                self.assertEqual(caught(by_name[name], arguments), "InvalidPoint")
        self.assertEqual(caught(by_name["face_turned"], (U, (0, 1))), "InvalidFace")
        self.assertEqual(caught(by_name["face_turned"], (((1,),), (0, 0))), "InvalidFace")
        self.assertEqual(caught(by_name["face_turned"], (order_to_square((2, 0, 1)), (0, 1))), None)


class Errors(unittest.TestCase):
    NAMES = """
        InvalidSquare InvalidSides InvalidOrder InvalidNumber InvalidColumn InvalidPoint InvalidHeights InvalidTriangle
        InvalidOrders InvalidIce InvalidSorts InvalidRoads InvalidWeights InvalidLines InvalidLoops InvalidEnd InvalidFace
        InvalidTies InvalidPlace InvalidWord InvalidPairs InvalidSize InvalidLaying InvalidCouple InvalidCell InvalidSigns
        InvalidTable InvalidBox InvalidPile InvalidCubes InvalidSpot InvalidIndex InvalidPoints InvalidTiles InvalidHalf
        InvalidCorner InvalidPrime InvalidFacts InvalidBounds InvalidMove InvalidLot InvalidNotes InvalidShare InvalidState
        InvalidStep InvalidScript InvalidText NothingToUndo NothingToRedo Unlike
    """.split()

    def test_each_error_takes_a_message(self):
        for name in self.NAMES:
            error = getattr(errors, name)
            self.assertEqual(error.__bases__, (errors.SignError,))
            self.assertEqual(str(error("a message")), "a message")
            self.assertEqual(error.__module__, "signsquared.errors")

    def test_the_base(self):
        self.assertEqual(errors.SignError.__bases__, (ValueError,))
        self.assertEqual(str(errors.SignError("a message")), "a message")

    def test_too_many_takes_a_limit(self):
        self.assertEqual(errors.TooMany.__bases__, (errors.SignError,))
        self.assertEqual(errors.TooMany(5).limit, 5)

    def test_there_are_no_other_errors(self):
        classes = {name for name, value in vars(errors).items() if inspect.isclass(value)}
        self.assertEqual(classes, set(self.NAMES) | {"SignError", "TooMany"})


if __name__ == "__main__":
    unittest.main()
