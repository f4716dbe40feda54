"""The edges that the document names: each with what is just allowed, what is just not, and which error comes first."""

import unittest

from signsquared import errors
from tests.plainfloors import upright
from tests.plainly import U, X, order_to_square, plain_heights, random_squares
from tests.test_arguments import functions
from tests.wrongs import identity

ONE_PAIR = (1, 0)


def nested(pairs):
    return tuple(range(2 * pairs - 1, -1, -1))


def side_by_side(pairs):
    return tuple(place ^ 1 for place in range(2 * pairs))


def descending(sides):
    return order_to_square(tuple(range(sides))[::-1])


def with_signs(many):
    """A square with so many ones and minuses: a board of ones and minuses in a square of zeros turned by an eighth."""
    return tuple(
        tuple(
            (-1) ** (i + j + many - 1) if many - 1 <= i + j <= 3 * many - 3 and abs(i - j) <= many - 1 else 0
            for j in range(2 * many - 1)
        )
        for i in range(2 * many - 1)
    )


def many_signs(square, sign):
    return sum(row.count(sign) for row in square)


# Each call, and behind it the error that it raises: its name, or the limit of TooMany, or None for no error.
STAGE_THREE = (
    ("squares_tied", (ONE_PAIR,), None),
    ("squares_tied", (nested(5),), None),
    ("squares_tied", (nested(6),), 5),
    ("squares_tied", (side_by_side(12),), 5),
    ("squares_tied", (side_by_side(13),), "InvalidTies"),
    ("count_tied", (ONE_PAIR,), None),
    ("count_tied", (side_by_side(5),), None),
    ("count_tied", (side_by_side(6),), 5),
    ("count_tied", (nested(12),), 5),
    ("count_tied", (nested(13),), "InvalidTies"),
    ("tie_counts", (1,), None),
    ("tie_counts", (5,), None),
    ("tie_counts", (6,), 5),
    ("tie_counts", (12,), 5),
    ("tie_counts", (13,), "InvalidSides"),
    ("stirred", (ONE_PAIR, 0), None),
    ("stirred", (ONE_PAIR, 1), None),
    ("stirred", (ONE_PAIR, 2), "InvalidPlace"),
    ("stirred", (nested(12), 23), None),
    ("stirred", (nested(12), 24), "InvalidPlace"),
    ("stirred", (nested(12), -1), "InvalidPlace"),
    ("stirred_by", (nested(12), (23,) * 60), None),
    ("stirred_by", (nested(12), (23,) * 61), "InvalidWord"),
    ("stirred_by", (nested(12), (24,)), "InvalidWord"),
    ("stirred_by", (ONE_PAIR, ()), None),
    ("stirred_by", (ONE_PAIR, (0, 1, 2)), "InvalidWord"),
    ("stir_way", (ONE_PAIR, ONE_PAIR), None),
    ("stir_way", (nested(6), side_by_side(6)), None),
    ("stir_way", (nested(7), side_by_side(7)), 6),
    ("stir_way", (nested(12), nested(12)), 6),
    ("stir_way", (nested(7), nested(6)), "Unlike"),
    ("stir_way", (nested(6), nested(7)), "Unlike"),
    ("stir_way", (ONE_PAIR, nested(2)), "Unlike"),
    ("stir_way", (nested(7), nested(13)), "InvalidTies"),
    ("stir_way", (nested(13), nested(7)), "InvalidTies"),
    ("rings_between", (ONE_PAIR, ONE_PAIR), None),
    ("rings_between", (nested(12), side_by_side(12)), None),
    ("rings_between", (nested(12), side_by_side(11)), "Unlike"),
    ("rings_between", (ONE_PAIR, nested(2)), "Unlike"),
    ("rings_between", (ONE_PAIR, [1, 0]), "InvalidTies"),
    ("ring_determinant", (5, 1000), None),
    ("ring_determinant", (5, -1000), None),
    ("ring_determinant", (6, 1001), "InvalidNumber"),
    ("floor_layings", (1,), None),
    ("floor_layings", (3,), None),
    ("floor_layings", (4,), 3),
    ("floor_layings", (11,), 3),
    ("floor_layings", (12,), "InvalidSize"),
    ("floor_layings", (0,), "InvalidSize"),
    ("flat_dominoes", (1, upright(1)), None),
    ("flat_dominoes", (11, upright(11)), None),
    ("flat_dominoes", (11, upright(10)), "InvalidLaying"),
    ("do_fit", (U, U), None),
    ("do_fit", (identity(12), X), None),
    ("do_fit", (identity(11), identity(12)), None),
    ("floor_laying", (U, U), "InvalidCouple"),
    ("floor_laying", (X, identity(2)), "InvalidCouple"),
    ("floor_laying", (identity(2), descending(3)), "InvalidCouple"),
    ("floor_laying", (identity(12), identity(12)), "InvalidCouple"),
    ("floor_laying", (identity(2), identity(13)), "InvalidSquare"),
    ("floor_laying", (identity(13), X), "InvalidSquare"),
    ("floor_laying", (identity(11), identity(12)), None),
    ("greats_around", (((1,),),), None),
    ("greats_around", (identity(8),), None),
    ("greats_around", (identity(9),), 8),
    ("greats_around", (identity(11),), 8),
    ("greats_around", (identity(12),), "InvalidSquare"),
    ("greats_around", (with_signs(3),), 8),
    ("smalls_within", (((1,),),), "InvalidSquare"),
    ("smalls_within", (identity(2),), None),
    ("smalls_within", (identity(12),), None),
    ("smalls_within", (with_signs(3),), None),
    ("smalls_within", (with_signs(4),), 8),
    ("block_turned", (2, upright(2), (1, 1)), "InvalidCell"),
    ("block_turned", (2, upright(2), (0, 2)), "InvalidCell"),
    ("block_turned", (2, upright(2), (2, 1)), None),
    ("slid_dominoes", (10, upright(10)), None),
    ("slid_dominoes", (11, upright(11)), "InvalidSize"),
    ("grown_laying", (1, upright(1), (0, 0)), None),
    ("grown_laying", (1, upright(1), (0, 0, 0)), "InvalidSigns"),
    ("grown_laying", (10, upright(10), (1,) * 11), None),
    ("grown_laying", (11, upright(11), (1,) * 12), "InvalidSize"),
    ("shrunk_laying", (1, upright(1), ()), "InvalidSize"),
    ("shrunk_laying", (2, upright(2), ()), None),
    ("shrunk_laying", (11, upright(11), ()), None),
    ("shrunk_laying", (11, upright(11), (0,)), "InvalidSigns"),
    ("shrunk_laying", (12, upright(11), ()), "InvalidSize"),
    ("growth_signs", (1, upright(1)), "InvalidSize"),
    ("growth_signs", (2, upright(2)), None),
    ("growth_signs", (11, upright(11)), None),
)

FLAT_BOX = (1, 1, 1)


def empty(box):
    return ((0,) * box[1],) * box[0]


STAGE_FOUR = (
    ("count_floor", (1,), None),
    ("count_floor", (60,), None),
    ("count_floor", (61,), "InvalidSize"),
    ("count_floor", (0,), "InvalidSize"),
    ("count_flat", (60, 0), None),
    ("count_flat", (1, 10 ** 4), None),
    ("count_flat", (1, 10 ** 4 + 1), "InvalidNumber"),
    ("count_flat", (1, -1), "InvalidNumber"),
    ("count_flat", (61, -1), "InvalidSize"),
    ("rise_counts", (1,), None),
    ("rise_counts", (11,), None),
    ("rise_counts", (12,), "InvalidSize"),
    ("condensed", (((1,),), 1), None),
    ("condensed", (((99,) * 8,) * 8, 99), None),
    ("condensed", (((99,) * 8,) * 8, 100), "InvalidNumber"),
    ("condensed", (((99,) * 8,) * 8, 0), "InvalidNumber"),
    ("condensed", (((99,) * 9,) * 9, 0), "InvalidTable"),
    ("condensed", (((100,),), 99), "InvalidTable"),
    ("condensed", (((0,),), 99), "InvalidTable"),
    ("condensed", ((), 99), "InvalidTable"),
    ("share_sum", (12, 99), None),
    ("share_sum", (1, 1), None),
    ("share_sum", (13, 99), "InvalidSides"),
    ("share_sum", (13, 100), "InvalidSides"),
    ("share_sum", (12, 100), "InvalidNumber"),
    ("is_pile", ((12, 12, 12), 0), None),
    ("is_pile", ((12, 12, 13), 0), "InvalidBox"),
    ("is_pile", ((12, 13, 12), 0), "InvalidBox"),
    ("is_pile", ((13, 12, 12), 0), "InvalidBox"),
    ("is_pile", ((1, 1, 0), 0), "InvalidBox"),
    ("pile_with", ((12, 12, 12), [(i, j, k) for i in range(12) for j in range(12) for k in range(12)]), None),
    ("pile_with", (FLAT_BOX, ()), None),
    ("pile_with", (FLAT_BOX, []), None),
    ("is_like_pile", (FLAT_BOX, ((2,),), "half"), "InvalidPile"),
    ("is_like_pile", (FLAT_BOX, ((1,),), "half"), "InvalidWord"),
    ("least_turns", (FLAT_BOX, ((1,),), ((2,),)), "InvalidPile"),
    ("least_turns", ((1, 1, 2), ((1,),), ((2,),)), None),
    ("least_turns", ((1, 1, 2), ((1,),), ((1,), (0,))), "InvalidPile"),
    ("cube_on", (FLAT_BOX, ((1,),), (0, 0)), "InvalidSpot"),
    ("cube_off", (FLAT_BOX, ((0,),), (0, 0)), "InvalidSpot"),
    ("cube_on", (FLAT_BOX, ((0,),), (0, 0)), None),
    ("cube_off", (FLAT_BOX, ((1,),), (0, 0)), None),
    ("road_points", ((12, 12, 12), empty((12, 12, 12)), 11), None),
    ("road_points", ((12, 12, 12), empty((12, 12, 12)), 12), "InvalidIndex"),
    ("road_points", ((12, 12, 12), empty((12, 12, 12)), -1), "InvalidIndex"),
    ("count_apart", (((0, 0),), ((40, 40),)), None),
    ("count_apart", (((0, 0),), ((41, 40),)), "InvalidPoints"),
    ("count_apart", (((0, -1),), ((40, 40),)), "InvalidPoints"),
    ("count_apart", (tuple((at, at) for at in range(10)), tuple((at + 30, at + 5) for at in range(10))), None),
    ("count_apart", (tuple((at, at) for at in range(11)), tuple((at, at) for at in range(11))), "InvalidPoints"),
    ("count_apart", (((0, 0),), ((0, 0), (1, 1))), "Unlike"),
    ("count_apart", (((0, 0), (1, 1)), ((0, 0),)), "Unlike"),
    ("count_apart", (((0, 0), (1, 1)), ((0, 0), (1, 0), (2, 2))), "InvalidPoints"),
    ("count_apart", (((0, 0), (0, 1)), ((0, 0),)), "InvalidPoints"),
    ("tiles_turned", (FLAT_BOX, ((0,),), (0, 0)), None),
    ("tiles_turned", (FLAT_BOX, ((0,),), (1, 1)), "InvalidPoint"),
    ("tiles_turned", ((2, 2, 2), ((2, 1), (1, 0)), (0, 0)), "InvalidPoint"),
    ("count_piles", ((40, 40, 40),), None),
    ("count_piles", ((40, 40, 41),), "InvalidBox"),
    ("count_piles", ((40, 41, 40),), "InvalidBox"),
    ("count_piles", ((41, 40, 40),), "InvalidBox"),
    ("count_piles", ((1, 0, 1),), "InvalidBox"),
    ("count_like_piles", ((40, 40, 40), "turned"), None),
    ("count_like_piles", ((40, 40, 40), "filled"), None),
    ("count_like_piles", ((40, 40, 40), "tipped"), None),
    ("count_like_piles", ((41, 40, 40), "half"), "InvalidBox"),
    ("count_like_piles", ((40, 40, 40), "half"), "InvalidWord"),
    ("count_like_piles", ((1, 2, 3), "half"), "InvalidWord"),
    ("piles", ((2, 3, 3),), None),
    ("piles", ((9, 2, 1),), None),
    ("piles", ((1, 1, 12),), None),
    ("piles", ((1, 12, 1),), None),
    ("piles", ((12, 1, 1),), None),
    ("piles", ((1, 2, 10),), 18),
    ("piles", ((1, 4, 5),), 18),
    ("piles", ((19, 1, 1),), "InvalidBox"),
    ("piles", ((1, 1, 13),), "InvalidBox"),
    ("piles", ((12, 12, 12),), 18),
    ("count_by_cubes", ((3, 2, 3),), None),
    ("count_by_cubes", ((1, 2, 9),), None),
    ("count_by_cubes", ((2, 2, 5),), 18),
    ("count_by_cubes", ((12, 12, 12),), 18),
    ("count_by_cubes", ((13, 12, 12),), "InvalidBox"),
    ("is_full", (6, 0), None),
    ("is_full", (7, 0), "InvalidHalf"),
    ("is_full", (0, 0), "InvalidHalf"),
    ("full_piles", (1,), None),
    ("full_piles", (4,), None),
    ("full_piles", (5,), 4),
    ("full_piles", (6,), 4),
    ("full_piles", (7,), "InvalidHalf"),
    ("corner_of", (1, ((2, 2), (2, 0))), "InvalidPile"),
    ("corner_of", (1, ((2, 2), (0, 0))), "InvalidPile"),
    ("corner_of", (1, ((2, 1), (1, 0))), None),
    ("full_by_corner", (1, ((1,),)), "InvalidCorner"),
    ("full_by_corner", (1, ((0,),)), None),
    ("full_by_corner", (6, ((0,) * 6,) * 6), None),
    ("full_by_corner", (7, ((0,) * 7,) * 7), "InvalidHalf"),
    ("full_by_corner", (5, ((0,) * 6,) * 6), "InvalidCorner"),
    ("count_full", (1,), None),
    ("count_full", (60,), None),
    ("count_full", (61,), "InvalidNumber"),
    ("count_full", (0,), "InvalidNumber"),
    ("minus_spread", (7,), None),
    ("minus_spread", (8,), 7),
    ("minus_spread", (12,), 7),
    ("minus_spread", (13,), "InvalidSides"),
    ("overtaking_spread", (7,), None),
    ("overtaking_spread", (8,), 7),
    ("overtaking_spread", (13,), "InvalidSides"),
    ("spread_table", (6,), None),
    ("spread_table", (7,), 6),
    ("spread_table", (13,), "InvalidSides"),
    ("first_minus_table", (6,), None),
    ("first_minus_table", (7,), 6),
    ("first_minus_table", (13,), "InvalidSides"),
    ("ends_table", (8,), None),
    ("ends_table", (9,), 8),
    ("ends_table", (13,), "InvalidSides"),
    ("count_ends", (8, 7, 0), None),
    ("count_ends", (8, 8, 0), "InvalidColumn"),
    ("count_ends", (8, 0, 8), "InvalidColumn"),
    ("count_ends", (9, 8, 8), 8),
    ("count_ends", (9, 9, 8), "InvalidColumn"),
    ("count_ends", (9, 8, 9), "InvalidColumn"),
    ("count_ends", (13, 13, 13), "InvalidSides"),
    ("most_minuses", (1,), None),
    ("most_minuses", (10 ** 30,), None),
    ("most_minuses", (10 ** 30 + 1,), "InvalidSides"),
    ("count_one_minus", (1,), None),
    ("count_one_minus", (200,), None),
    ("count_one_minus", (201,), "InvalidSides"),
)


def facts_of(many):
    return (("cell", 0, 0, 1),) * many


def plain(sides):
    """The plain notes of the unit square."""
    return tuple(tuple((2 ** height, 1) for height in row) for row in plain_heights(identity(sides)))


BAD_POINT = ("least", 0, 0, 41)
STATE = (identity(2), plain(2), (1, 1))
BIG_STATE = (identity(12), plain(12), (12, 12))

STAGE_FIVE = (
    ("sum_by", (40, 1), None),
    ("sum_by", (40, 2), None),
    ("sum_by", (40, 3), None),
    ("sum_by", (41, 1), "InvalidSides"),
    ("sum_by", (0, 1), "InvalidSides"),
    ("sum_by", (41, 1001), "InvalidSides"),
    ("sum_by", (40, 1001), "InvalidNumber"),
    ("sum_by", (40, -1001), "InvalidNumber"),
    ("sum_by", (40, True), "InvalidNumber"),
    ("sum_by", (40, 4), 7),
    ("sum_by", (40, 0), 7),
    ("sum_by", (40, -1), 7),
    ("sum_by", (40, -2), 7),
    ("sum_by", (40, -3), 7),
    ("sum_by", (8, 1000), 7),
    ("sum_by", (8, -1000), 7),
    ("sum_by", (8, 3), None),
    ("sum_by", (7, 1000), None),
    ("sum_by", (7, -1000), None),
    ("sum_by", (7, 0), None),
    ("twos_first", (40, 39), None),
    ("twos_first", (40, 40), "InvalidColumn"),
    ("twos_first", (40, -1), "InvalidColumn"),
    ("twos_first", (41, 41), "InvalidSides"),
    ("sum_by_two", (6, 1000, -1000), None),
    ("sum_by_two", (6, 0, 0), None),
    ("sum_by_two", (7, 1, 1), 6),
    ("sum_by_two", (40, 1, 1), 6),
    ("sum_by_two", (41, 1, 1), "InvalidSides"),
    ("sum_by_two", (7, 1001, 1), "InvalidNumber"),
    ("sum_by_two", (7, 1, -1001), "InvalidNumber"),
    ("sum_by_two", (7, 1, None), "InvalidNumber"),
    ("twos_rest", (10 ** 30, 10 ** 12), None),
    ("twos_rest", (10 ** 30, 1), None),
    ("twos_rest", (1, 1), None),
    ("twos_rest", (10 ** 30 + 1, 1), "InvalidSides"),
    ("twos_rest", (10 ** 30 + 1, 0), "InvalidSides"),
    ("twos_rest", (10 ** 30, 0), "InvalidNumber"),
    ("twos_rest", (10 ** 30, 10 ** 12 + 1), "InvalidNumber"),
    ("is_count_odd", (1,), None),
    ("is_count_odd", (10 ** 30,), None),
    ("is_count_odd", (10 ** 30 + 1,), "InvalidSides"),
    ("is_count_odd", (0,), "InvalidSides"),
    ("count_power", (500, 997), None),
    ("count_power", (500, 2), None),
    ("count_power", (1, 2), None),
    ("count_power", (501, 997), "InvalidSides"),
    ("count_power", (501, 4), "InvalidSides"),
    ("count_power", (500, 1009), "InvalidPrime"),
    ("count_power", (500, 999), "InvalidPrime"),
    ("count_power", (500, 1), "InvalidPrime"),
    ("count_power", (500, 0), "InvalidPrime"),
    ("count_power", (500, -2), "InvalidPrime"),
    ("count_power", (500, 4), "InvalidPrime"),
    ("are_facts", (12, 0), None),
    ("are_facts", (13, 0), "InvalidSides"),
    ("are_facts", (0, ()), "InvalidSides"),
    ("goes_with", (identity(12), facts_of(40)), None),
    ("goes_with", (identity(12), facts_of(41)), "InvalidFacts"),
    ("goes_with", (identity(13), facts_of(41)), "InvalidSquare"),
    ("goes_with", (identity(2), (("cell", 2, 0, 0),)), "InvalidFacts"),
    ("count_told", (8, facts_of(40)), None),
    ("count_told", (9, ()), 8),
    ("count_told", (9, facts_of(41)), "InvalidFacts"),
    ("count_told", (13, facts_of(41)), "InvalidSides"),
    ("first_told", (8, ()), None),
    ("first_told", (9, ()), 8),
    ("first_told", (12, facts_of(40)), 8),
    ("last_told", (8, ()), None),
    ("last_told", (9, ()), 8),
    ("told_with", (8, (), 10850215), None),
    ("told_with", (8, (), 10850216), "InvalidNumber"),
    ("told_with", (8, (), -1), "InvalidNumber"),
    ("told_with", (9, (), -1), "InvalidNumber"),
    ("told_with", (9, (), 10 ** 119), 8),
    ("told_with", (9, (BAD_POINT,), -1), "InvalidFacts"),
    ("told_with", (2, (("cell", 0, 0, -1),), 0), "InvalidNumber"),
    ("told_with", (9, (("cell", 0, 0, -1),), 0), 8),
    ("squares_told", (5, ()), None),
    ("squares_told", (6, ()), 5),
    ("squares_told", (6, facts_of(41)), "InvalidFacts"),
    ("squares_told", (12, ()), 5),
    ("sure_cells", (7, ()), None),
    ("sure_cells", (8, ()), 7),
    ("sure_cells", (8, (BAD_POINT,)), "InvalidFacts"),
    ("height_bounds", (7, ()), None),
    ("height_bounds", (8, ()), 7),
    ("height_bounds", (13, ()), "InvalidSides"),
    ("least_told", (7, ()), None),
    ("least_told", (8, ()), 7),
    ("greatest_told", (7, facts_of(40)), None),
    ("greatest_told", (8, ()), 7),
    ("clash_in", (7, facts_of(8)), None),
    ("clash_in", (7, facts_of(9)), 8),
    ("clash_in", (8, facts_of(8)), 7),
    ("clash_in", (8, facts_of(9)), 7),
    ("clash_in", (8, facts_of(41)), "InvalidFacts"),
    ("clash_in", (1, facts_of(40)), 8),
    ("fewest_cells", (identity(4),), None),
    ("fewest_cells", (identity(5),), 4),
    ("fewest_cells", (identity(12),), 4),
    ("fewest_cells", (identity(13),), "InvalidSquare"),
    ("fewest_points", (identity(4),), None),
    ("fewest_points", (identity(5),), 4),
    ("fewest_points", (identity(13),), "InvalidSquare"),
    ("is_cell_paper", (8, (), 0), None),
    ("is_cell_paper", (9, (), 0), 8),
    ("is_cell_paper", (9, facts_of(41), 0), "InvalidFacts"),
    ("is_cell_paper", (13, facts_of(41), 0), "InvalidSides"),
    ("least_above", (12, ((6, 6, 40),) * 40), None),
    ("least_above", (12, ((6, 6, 40),) * 41), "InvalidBounds"),
    ("least_above", (12, ((12, 12, -40),)), None),
    ("least_above", (12, ((12, 12, -41),)), "InvalidBounds"),
    ("least_above", (12, ((0, 0, 41),)), "InvalidBounds"),
    ("least_above", (12, ((13, 0, 0),)), "InvalidBounds"),
    ("least_above", (13, ((13, 0, 0),)), "InvalidSides"),
    ("greatest_under", (12, ((0, 12, 40),) * 40), None),
    ("greatest_under", (12, ((0, 12, 40),) * 41), "InvalidBounds"),
    ("greatest_under", (12, ((0, 0, -41),)), "InvalidBounds"),
    ("greatest_under", (0, ()), "InvalidSides"),
    ("bounds_go", (12, ((0, 0, 0),) * 40, ((0, 0, 0),) * 40), None),
    ("bounds_go", (12, ((0, 0, 0),) * 41, ((0, 0, 0),) * 40), "InvalidBounds"),
    ("bounds_go", (12, ((0, 0, 0),) * 40, ((0, 0, 0),) * 41), "InvalidBounds"),
    ("bounds_go", (13, ((0, 0, 0),) * 41, ()), "InvalidSides"),
    ("bounds_paper", (12, (), ((0, 0, 0),) * 41), "InvalidBounds"),
    ("bounds_paper", (12, ((12, 12, 40),) * 40, ((0, 0, -40),) * 40), None),
    ("moved_by", (identity(12), "half"), None),
    ("moved_by", (identity(13), "Half"), "InvalidSquare"),
    ("is_like", (identity(12), ("half",)), None),
    ("is_like", (identity(12), ()), "InvalidLot"),
    ("is_like", (identity(12), ("stay",)), "InvalidLot"),
    ("squares_like", (6, ("half",)), None),
    ("squares_like", (7, ("half",)), 6),
    ("squares_like", (7, ("stay",)), "InvalidLot"),
    ("squares_like", (13, ("stay",)), "InvalidSides"),
    ("count_like", (6, ("mirrored",)), None),
    ("count_like", (7, ("mirrored",)), 6),
    ("count_like", (12, ()), "InvalidLot"),
    ("told_cells", (6, ("tipped",)), None),
    ("told_cells", (7, ("tipped",)), 6),
    ("told_cells", (7, ("tipped", "half")), "InvalidLot"),
    ("count_looks", (6,), None),
    ("count_looks", (7,), 6),
    ("count_looks", (13,), "InvalidSides"),
)

STAGE_SIX = (
    ("count_by_move", (60, "half"), None),
    ("count_by_move", (60, "quarter"), None),
    ("count_by_move", (59, "mirrored"), None),
    ("count_by_move", (61, "half"), "InvalidSides"),
    ("count_by_move", (61, "tipped"), "InvalidSides"),
    ("count_by_move", (60, "tipped"), "InvalidMove"),
    ("count_by_move", (0, "half"), "InvalidSides"),
    ("like_below", (identity(12), ("half", "slanted", "tipped")), None),
    ("like_below", (identity(12), ("mirrored",)), "InvalidLot"),
    ("like_below", (identity(13), ("mirrored",)), "InvalidSquare"),
    ("like_above", (identity(12), ("half", "slanted", "tipped")), None),
    ("like_above", (identity(12), ("quarter",)), "InvalidLot"),
    ("apart_squares", (identity(12), identity(11)), "Unlike"),
    ("apart_squares", (identity(11), identity(13)), "InvalidSquare"),
    ("nearest_like", (identity(5), ("half",)), None),
    ("nearest_like", (identity(6), ("half",)), 5),
    ("nearest_like", (identity(12), ("half",)), 5),
    ("nearest_like", (identity(12), ("stay",)), "InvalidLot"),
    ("nearest_like", (identity(13), ("stay",)), "InvalidSquare"),
    ("are_notes", (12, 0), None),
    ("are_notes", (13, 0), "InvalidSides"),
    ("plain_notes", (identity(12),), None),
    ("plain_notes", (identity(13),), "InvalidSquare"),
    ("notes_toggled", (12, plain(12), (11, 11)), None),
    ("notes_toggled", (12, plain(12), (12, 11)), "InvalidPoint"),
    ("notes_toggled", (12, plain(12), (0, 1)), "InvalidPoint"),
    ("notes_toggled", (12, plain(11), (0, 1)), "InvalidNotes"),
    ("notes_toggled", (1, plain(1), (0, 0)), "InvalidPoint"),
    ("notes_toggled", (1, plain(1), (1, 1)), "InvalidPoint"),
    ("notes_by_colour", (1, plain(1), 1), None),
    ("notes_by_colour", (12, plain(12), 2), "InvalidNumber"),
    ("notes_by_colour", (12, plain(12), -1), "InvalidNumber"),
    ("notes_by_colour", (11, plain(12), 2), "InvalidNotes"),
    ("toggled", (identity(12), (1, 11)), None),
    ("toggled", (identity(12), (0, 11)), "InvalidPoint"),
    ("toggled", (identity(12), (1, 12)), "InvalidPoint"),
    ("toggled", (identity(1), (0, 0)), "InvalidPoint"),
    ("toggled_colour", (identity(1), 0), None),
    ("toggled_colour", (identity(1), 2), "InvalidNumber"),
    ("toggle_way", (identity(12), descending(12)), None),
    ("toggle_way", (identity(12), descending(11)), "Unlike"),
    ("is_toggle_way", (identity(12), descending(11), 0), "Unlike"),
    ("is_toggle_way", (identity(12), identity(13), 0), "InvalidSquare"),
    ("stepped", (STATE, ("toggle", (1, 1))), None),
    ("stepped", (STATE, ("toggle", (0, 1))), "InvalidPoint"),
    ("stepped", (STATE, ("toggle", (2, 1))), "InvalidPoint"),
    ("stepped", (STATE, ("toggle", (12, 12))), "InvalidPoint"),
    ("stepped", (STATE, ("toggle", (13, 12))), "InvalidStep"),
    ("stepped", (STATE, ("set", (0, 2), (1, 1))), None),
    ("stepped", (STATE, ("set", (0, 3), (1, 1))), "InvalidPoint"),
    ("stepped", (STATE, ("set", (0, 12), (1, 1))), "InvalidPoint"),
    ("stepped", (STATE, ("set", (0, 13), (1, 1))), "InvalidStep"),
    ("stepped", (STATE, ("set", (0, 3), (2, 2))), "InvalidStep"),
    ("stepped", (STATE, ("set", (2, 2), (1000, 999))), None),
    ("stepped", (STATE, ("set", (2, 2), (1001, 1000))), "InvalidStep"),
    ("stepped", (STATE, ("scale", (1000, 1))), None),
    ("stepped", (STATE, ("scale", (1001, 1))), "InvalidStep"),
    ("stepped", (STATE, ("scale", (1, 1001))), "InvalidStep"),
    ("stepped", (STATE, ("scale", (0, 1))), "InvalidStep"),
    ("stepped", (STATE, ("scale", (4, 2))), "InvalidStep"),
    ("stepped", (STATE, ("go", (2, 0))), None),
    ("stepped", (STATE, ("go", (3, 0))), "InvalidPoint"),
    ("stepped", (STATE, ("go", (13, 0))), "InvalidStep"),
    ("stepped", (STATE, ("colour", 2)), "InvalidStep"),
    ("stepped", (STATE, ("meet", (0, 1))), None),
    ("stepped", (STATE, ("meet", (0,))), "Unlike"),
    ("stepped", (STATE, ("meet", tuple(range(12)))), "Unlike"),
    ("stepped", (STATE, ("join", tuple(range(12)))), "Unlike"),
    ("stepped", (STATE, ("join", tuple(range(13)))), "InvalidStep"),
    ("stepped", (BIG_STATE, ("join", tuple(range(12))[::-1])), None),
    ("stepped", (BIG_STATE, ("go", (12, 12))), None),
    ("stepped", (BIG_STATE, ("toggle", (12, 12))), "InvalidPoint"),
    ("stepped", ((identity(12), plain(12), (13, 12)), ("toggle", (12, 12))), "InvalidState"),
    ("stepped", ((identity(13), plain(12), (12, 12)), ("toggle", (12, 12))), "InvalidState"),
    ("step_back", (STATE, ("toggle", (0, 1))), "InvalidPoint"),
    ("step_back", (STATE, ("set", (3, 1), (1, 1))), "InvalidPoint"),
    ("step_back", (STATE, ("go", (3, 1))), "InvalidPoint"),
    ("step_back", (STATE, ("join", (0, 1, 2))), "Unlike"),
    ("step_back", (STATE, ("meet", (0, 1, 2))), "Unlike"),
    ("step_back", (STATE, ("meet", (0, 1, 1))), "InvalidStep"),
    ("step_back", (STATE[:2], ("meet", (0, 1, 1))), "InvalidState"),
    ("all_stepped", (STATE, (("tip",),) * 12), None),
    ("all_stepped", (STATE, (("tip",),) * 13), "InvalidScript"),
    ("all_stepped", (STATE[:2], (("tip",),) * 13), "InvalidState"),
    ("all_stepped", (STATE, (("tip",), ("go", (3, 3)), ("meet", (0,)))), "InvalidPoint"),
    ("all_stepped", (STATE, (("tip",), ("meet", (0,)), ("go", (3, 3)))), "Unlike"),
    ("all_stepped", (STATE, (("go", (3, 3)), ("tip", 1))), "InvalidScript"),
    ("script_text", ((("tip",),) * 12,), None),
    ("script_text", ((("tip",),) * 13,), "InvalidScript"),
    ("read_script", ("\n".join(["tip"] * 12),), None),
    ("read_script", ("\n".join(["tip"] * 13),), "InvalidText"),
    ("notes_text", (12, plain(12)), None),
    ("notes_text", (13, plain(12)), "InvalidSides"),
    ("notes_text", (11, plain(12)), "InvalidNotes"),
    ("read_notes", (12, ""), "InvalidText"),
    ("read_notes", (13, ""), "InvalidSides"),
    ("read_notes", (2, "1 1; 1 1"), "InvalidText"),
    ("read_notes", (1, "1 1; 1 1"), None),
)


class Edges(unittest.TestCase):
    def check(self, edges):
        by_name = {function.__name__: function for _, function, _, _ in functions()}
        for name, arguments, told in edges:
            with self.subTest(name=name, arguments=repr(arguments)[:80]):
                if told is None:
                    by_name[name](*arguments)
                elif isinstance(told, str):
                    with self.assertRaises(getattr(errors, told)):
                        by_name[name](*arguments)
                else:
                    with self.assertRaises(errors.TooMany) as caught:
                        by_name[name](*arguments)
                    self.assertEqual(caught.exception.limit, told)

    def test_the_signs_counted(self):
        """The squares that stand at the limit of ones and minuses have just so many."""
        self.assertEqual([many_signs(with_signs(3), sign) for sign in (1, -1)], [9, 4])
        self.assertEqual([many_signs(with_signs(4), sign) for sign in (1, -1)], [16, 9])

    def test_stage_three(self):
        self.check(STAGE_THREE)

    def test_stage_four(self):
        self.check(STAGE_FOUR)

    def test_stage_five(self):
        self.check(STAGE_FIVE)

    def test_stage_six(self):
        self.check(STAGE_SIX)


class Limits(unittest.TestCase):
    def test_eight_and_nine_signs(self):
        by_name = {function.__name__: function for _, function, _, _ in functions()}
        eight = nine = 0
        for square in random_squares(12, 60) + random_squares(10, 60) + random_squares(6, 60):
            for name, sign in (("greats_around", 1), ("smalls_within", -1)):
                many = many_signs(square, sign)
                if many in (8, 9) and (name, len(square)) != ("greats_around", 12):
                    try:
                        self.assertEqual(len(by_name[name](square)), 256)
                        self.assertEqual(many, 8)
                        eight += 1
                    except errors.TooMany as error:
                        self.assertEqual((many, error.limit), (9, 8))
                        nine += 1
        self.assertTrue(eight > 3 and nine > 3, (eight, nine))


if __name__ == "__main__":
    unittest.main()
