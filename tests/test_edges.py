"""The edges that the document names: each with what is just allowed, what is just not, and which error comes first."""

import unittest

from signsquared import errors
from tests.plainfloors import upright
from tests.plainly import U, X, order_to_square, random_squares
from tests.test_arguments import functions
from tests.wrongs import identity

ONE_PAIR = (1, 0)


def nested(pairs):
    return tuple(range(2 * pairs - 1, -1, -1))


def side_by_side(pairs):
    return tuple(place ^ 1 for place in range(2 * pairs))


def descending(sides):
    return order_to_square(tuple(range(sides))[::-1])


def with_signs(many):
    """A square with so many ones and minuses: a board of ones and minuses in a square of zeros turned by an eighth."""
    return tuple(
        tuple(
            (-1) ** (i + j + many - 1) if many - 1 <= i + j <= 3 * many - 3 and abs(i - j) <= many - 1 else 0
            for j in range(2 * many - 1)
        )
        for i in range(2 * many - 1)
    )


def many_signs(square, sign):
    return sum(row.count(sign) for row in square)


# Each call, and behind it the error that it raises: its name, or the limit of TooMany, or None for no error.
STAGE_THREE = (
    ("squares_tied", (ONE_PAIR,), None),
    ("squares_tied", (nested(5),), None),
    ("squares_tied", (nested(6),), 5),
    ("squares_tied", (side_by_side(12),), 5),
    ("squares_tied", (side_by_side(13),), "InvalidTies"),
    ("count_tied", (ONE_PAIR,), None),
    ("count_tied", (side_by_side(5),), None),
    ("count_tied", (side_by_side(6),), 5),
    ("count_tied", (nested(12),), 5),
    ("count_tied", (nested(13),), "InvalidTies"),
    ("tie_counts", (1,), None),
    ("tie_counts", (5,), None),
    ("tie_counts", (6,), 5),
    ("tie_counts", (12,), 5),
    ("tie_counts", (13,), "InvalidSides"),
    ("stirred", (ONE_PAIR, 0), None),
    ("stirred", (ONE_PAIR, 1), None),
    ("stirred", (ONE_PAIR, 2), "InvalidPlace"),
    ("stirred", (nested(12), 23), None),
    ("stirred", (nested(12), 24), "InvalidPlace"),
    ("stirred", (nested(12), -1), "InvalidPlace"),
    ("stirred_by", (nested(12), (23,) * 60), None),
    ("stirred_by", (nested(12), (23,) * 61), "InvalidWord"),
    ("stirred_by", (nested(12), (24,)), "InvalidWord"),
    ("stirred_by", (ONE_PAIR, ()), None),
    ("stirred_by", (ONE_PAIR, (0, 1, 2)), "InvalidWord"),
    ("stir_way", (ONE_PAIR, ONE_PAIR), None),
    ("stir_way", (nested(6), side_by_side(6)), None),
    ("stir_way", (nested(7), side_by_side(7)), 6),
    ("stir_way", (nested(12), nested(12)), 6),
    ("stir_way", (nested(7), nested(6)), "Unlike"),
    ("stir_way", (nested(6), nested(7)), "Unlike"),
    ("stir_way", (ONE_PAIR, nested(2)), "Unlike"),
    ("stir_way", (nested(7), nested(13)), "InvalidTies"),
    ("stir_way", (nested(13), nested(7)), "InvalidTies"),
    ("rings_between", (ONE_PAIR, ONE_PAIR), None),
    ("rings_between", (nested(12), side_by_side(12)), None),
    ("rings_between", (nested(12), side_by_side(11)), "Unlike"),
    ("rings_between", (ONE_PAIR, nested(2)), "Unlike"),
    ("rings_between", (ONE_PAIR, [1, 0]), "InvalidTies"),
    ("ring_determinant", (5, 1000), None),
    ("ring_determinant", (5, -1000), None),
    ("ring_determinant", (6, 1001), "InvalidNumber"),
    ("floor_layings", (1,), None),
    ("floor_layings", (3,), None),
    ("floor_layings", (4,), 3),
    ("floor_layings", (11,), 3),
    ("floor_layings", (12,), "InvalidSize"),
    ("floor_layings", (0,), "InvalidSize"),
    ("flat_dominoes", (1, upright(1)), None),
    ("flat_dominoes", (11, upright(11)), None),
    ("flat_dominoes", (11, upright(10)), "InvalidLaying"),
    ("do_fit", (U, U), None),
    ("do_fit", (identity(12), X), None),
    ("do_fit", (identity(11), identity(12)), None),
    ("floor_laying", (U, U), "InvalidCouple"),
    ("floor_laying", (X, identity(2)), "InvalidCouple"),
    ("floor_laying", (identity(2), descending(3)), "InvalidCouple"),
    ("floor_laying", (identity(12), identity(12)), "InvalidCouple"),
    ("floor_laying", (identity(2), identity(13)), "InvalidSquare"),
    ("floor_laying", (identity(13), X), "InvalidSquare"),
    ("floor_laying", (identity(11), identity(12)), None),
    ("greats_around", (((1,),),), None),
    ("greats_around", (identity(8),), None),
    ("greats_around", (identity(9),), 8),
    ("greats_around", (identity(11),), 8),
    ("greats_around", (identity(12),), "InvalidSquare"),
    ("greats_around", (with_signs(3),), 8),
    ("smalls_within", (((1,),),), "InvalidSquare"),
    ("smalls_within", (identity(2),), None),
    ("smalls_within", (identity(12),), None),
    ("smalls_within", (with_signs(3),), None),
    ("smalls_within", (with_signs(4),), 8),
    ("block_turned", (2, upright(2), (1, 1)), "InvalidCell"),
    ("block_turned", (2, upright(2), (0, 2)), "InvalidCell"),
    ("block_turned", (2, upright(2), (2, 1)), None),
    ("slid_dominoes", (10, upright(10)), None),
    ("slid_dominoes", (11, upright(11)), "InvalidSize"),
    ("grown_laying", (1, upright(1), (0, 0)), None),
    ("grown_laying", (1, upright(1), (0, 0, 0)), "InvalidSigns"),
    ("grown_laying", (10, upright(10), (1,) * 11), None),
    ("grown_laying", (11, upright(11), (1,) * 12), "InvalidSize"),
    ("shrunk_laying", (1, upright(1), ()), "InvalidSize"),
    ("shrunk_laying", (2, upright(2), ()), None),
    ("shrunk_laying", (11, upright(11), ()), None),
    ("shrunk_laying", (11, upright(11), (0,)), "InvalidSigns"),
    ("shrunk_laying", (12, upright(11), ()), "InvalidSize"),
    ("growth_signs", (1, upright(1)), "InvalidSize"),
    ("growth_signs", (2, upright(2)), None),
    ("growth_signs", (11, upright(11)), None),
)

FLAT_BOX = (1, 1, 1)


def empty(box):
    return ((0,) * box[1],) * box[0]


STAGE_FOUR = (
    ("count_floor", (1,), None),
    ("count_floor", (60,), None),
    ("count_floor", (61,), "InvalidSize"),
    ("count_floor", (0,), "InvalidSize"),
    ("count_flat", (60, 0), None),
    ("count_flat", (1, 10 ** 4), None),
    ("count_flat", (1, 10 ** 4 + 1), "InvalidNumber"),
    ("count_flat", (1, -1), "InvalidNumber"),
    ("count_flat", (61, -1), "InvalidSize"),
    ("rise_counts", (1,), None),
    ("rise_counts", (11,), None),
    ("rise_counts", (12,), "InvalidSize"),
    ("condensed", (((1,),), 1), None),
    ("condensed", (((99,) * 8,) * 8, 99), None),
    ("condensed", (((99,) * 8,) * 8, 100), "InvalidNumber"),
    ("condensed", (((99,) * 8,) * 8, 0), "InvalidNumber"),
    ("condensed", (((99,) * 9,) * 9, 0), "InvalidTable"),
    ("condensed", (((100,),), 99), "InvalidTable"),
    ("condensed", (((0,),), 99), "InvalidTable"),
    ("condensed", ((), 99), "InvalidTable"),
    ("share_sum", (12, 99), None),
    ("share_sum", (1, 1), None),
    ("share_sum", (13, 99), "InvalidSides"),
    ("share_sum", (13, 100), "InvalidSides"),
    ("share_sum", (12, 100), "InvalidNumber"),
    ("is_pile", ((12, 12, 12), 0), None),
    ("is_pile", ((12, 12, 13), 0), "InvalidBox"),
    ("is_pile", ((12, 13, 12), 0), "InvalidBox"),
    ("is_pile", ((13, 12, 12), 0), "InvalidBox"),
    ("is_pile", ((1, 1, 0), 0), "InvalidBox"),
    ("pile_with", ((12, 12, 12), [(i, j, k) for i in range(12) for j in range(12) for k in range(12)]), None),
    ("pile_with", (FLAT_BOX, ()), None),
    ("pile_with", (FLAT_BOX, []), None),
    ("is_like_pile", (FLAT_BOX, ((2,),), "half"), "InvalidPile"),
    ("is_like_pile", (FLAT_BOX, ((1,),), "half"), "InvalidWord"),
    ("least_turns", (FLAT_BOX, ((1,),), ((2,),)), "InvalidPile"),
    ("least_turns", ((1, 1, 2), ((1,),), ((2,),)), None),
    ("least_turns", ((1, 1, 2), ((1,),), ((1,), (0,))), "InvalidPile"),
    ("cube_on", (FLAT_BOX, ((1,),), (0, 0)), "InvalidSpot"),
    ("cube_off", (FLAT_BOX, ((0,),), (0, 0)), "InvalidSpot"),
    ("cube_on", (FLAT_BOX, ((0,),), (0, 0)), None),
    ("cube_off", (FLAT_BOX, ((1,),), (0, 0)), None),
    ("road_points", ((12, 12, 12), empty((12, 12, 12)), 11), None),
    ("road_points", ((12, 12, 12), empty((12, 12, 12)), 12), "InvalidIndex"),
    ("road_points", ((12, 12, 12), empty((12, 12, 12)), -1), "InvalidIndex"),
    ("count_apart", (((0, 0),), ((40, 40),)), None),
    ("count_apart", (((0, 0),), ((41, 40),)), "InvalidPoints"),
    ("count_apart", (((0, -1),), ((40, 40),)), "InvalidPoints"),
    ("count_apart", (tuple((at, at) for at in range(10)), tuple((at + 30, at + 5) for at in range(10))), None),
    ("count_apart", (tuple((at, at) for at in range(11)), tuple((at, at) for at in range(11))), "InvalidPoints"),
    ("count_apart", (((0, 0),), ((0, 0), (1, 1))), "Unlike"),
    ("count_apart", (((0, 0), (1, 1)), ((0, 0),)), "Unlike"),
    ("count_apart", (((0, 0), (1, 1)), ((0, 0), (1, 0), (2, 2))), "InvalidPoints"),
    ("count_apart", (((0, 0), (0, 1)), ((0, 0),)), "InvalidPoints"),
    ("tiles_turned", (FLAT_BOX, ((0,),), (0, 0)), None),
    ("tiles_turned", (FLAT_BOX, ((0,),), (1, 1)), "InvalidPoint"),
    ("tiles_turned", ((2, 2, 2), ((2, 1), (1, 0)), (0, 0)), "InvalidPoint"),
    ("count_piles", ((40, 40, 40),), None),
    ("count_piles", ((40, 40, 41),), "InvalidBox"),
    ("count_piles", ((40, 41, 40),), "InvalidBox"),
    ("count_piles", ((41, 40, 40),), "InvalidBox"),
    ("count_piles", ((1, 0, 1),), "InvalidBox"),
    ("count_like_piles", ((40, 40, 40), "turned"), None),
    ("count_like_piles", ((40, 40, 40), "filled"), None),
    ("count_like_piles", ((40, 40, 40), "tipped"), None),
    ("count_like_piles", ((41, 40, 40), "half"), "InvalidBox"),
    ("count_like_piles", ((40, 40, 40), "half"), "InvalidWord"),
    ("count_like_piles", ((1, 2, 3), "half"), "InvalidWord"),
    ("piles", ((2, 3, 3),), None),
    ("piles", ((9, 2, 1),), None),
    ("piles", ((1, 1, 12),), None),
    ("piles", ((1, 12, 1),), None),
    ("piles", ((12, 1, 1),), None),
    ("piles", ((1, 2, 10),), 18),
    ("piles", ((1, 4, 5),), 18),
    ("piles", ((19, 1, 1),), "InvalidBox"),
    ("piles", ((1, 1, 13),), "InvalidBox"),
    ("piles", ((12, 12, 12),), 18),
    ("count_by_cubes", ((3, 2, 3),), None),
    ("count_by_cubes", ((1, 2, 9),), None),
    ("count_by_cubes", ((2, 2, 5),), 18),
    ("count_by_cubes", ((12, 12, 12),), 18),
    ("count_by_cubes", ((13, 12, 12),), "InvalidBox"),
    ("is_full", (6, 0), None),
    ("is_full", (7, 0), "InvalidHalf"),
    ("is_full", (0, 0), "InvalidHalf"),
    ("full_piles", (1,), None),
    ("full_piles", (4,), None),
    ("full_piles", (5,), 4),
    ("full_piles", (6,), 4),
    ("full_piles", (7,), "InvalidHalf"),
    ("corner_of", (1, ((2, 2), (2, 0))), "InvalidPile"),
    ("corner_of", (1, ((2, 2), (0, 0))), "InvalidPile"),
    ("corner_of", (1, ((2, 1), (1, 0))), None),
    ("full_by_corner", (1, ((1,),)), "InvalidCorner"),
    ("full_by_corner", (1, ((0,),)), None),
    ("full_by_corner", (6, ((0,) * 6,) * 6), None),
    ("full_by_corner", (7, ((0,) * 7,) * 7), "InvalidHalf"),
    ("full_by_corner", (5, ((0,) * 6,) * 6), "InvalidCorner"),
    ("count_full", (1,), None),
    ("count_full", (60,), None),
    ("count_full", (61,), "InvalidNumber"),
    ("count_full", (0,), "InvalidNumber"),
    ("minus_spread", (7,), None),
    ("minus_spread", (8,), 7),
    ("minus_spread", (12,), 7),
    ("minus_spread", (13,), "InvalidSides"),
    ("overtaking_spread", (7,), None),
    ("overtaking_spread", (8,), 7),
    ("overtaking_spread", (13,), "InvalidSides"),
    ("spread_table", (6,), None),
    ("spread_table", (7,), 6),
    ("spread_table", (13,), "InvalidSides"),
    ("first_minus_table", (6,), None),
    ("first_minus_table", (7,), 6),
    ("first_minus_table", (13,), "InvalidSides"),
    ("ends_table", (8,), None),
    ("ends_table", (9,), 8),
    ("ends_table", (13,), "InvalidSides"),
    ("count_ends", (8, 7, 0), None),
    ("count_ends", (8, 8, 0), "InvalidColumn"),
    ("count_ends", (8, 0, 8), "InvalidColumn"),
    ("count_ends", (9, 8, 8), 8),
    ("count_ends", (9, 9, 8), "InvalidColumn"),
    ("count_ends", (9, 8, 9), "InvalidColumn"),
    ("count_ends", (13, 13, 13), "InvalidSides"),
    ("most_minuses", (1,), None),
    ("most_minuses", (10 ** 30,), None),
    ("most_minuses", (10 ** 30 + 1,), "InvalidSides"),
    ("count_one_minus", (1,), None),
    ("count_one_minus", (200,), None),
    ("count_one_minus", (201,), "InvalidSides"),
)


class Edges(unittest.TestCase):
    def check(self, edges):
        by_name = {function.__name__: function for _, function, _, _ in functions()}
        for name, arguments, told in edges:
            with self.subTest(name=name, arguments=repr(arguments)[:80]):
                if told is None:
                    by_name[name](*arguments)
                elif isinstance(told, str):
                    with self.assertRaises(getattr(errors, told)):
                        by_name[name](*arguments)
                else:
                    with self.assertRaises(errors.TooMany) as caught:
                        by_name[name](*arguments)
                    self.assertEqual(caught.exception.limit, told)

    def test_the_signs_counted(self):
        """The squares that stand at the limit of ones and minuses have just so many."""
        self.assertEqual([many_signs(with_signs(3), sign) for sign in (1, -1)], [9, 4])
        self.assertEqual([many_signs(with_signs(4), sign) for sign in (1, -1)], [16, 9])

    def test_stage_three(self):
        self.check(STAGE_THREE)

    def test_stage_four(self):
        self.check(STAGE_FOUR)


class Limits(unittest.TestCase):
    def test_eight_and_nine_signs(self):
        by_name = {function.__name__: function for _, function, _, _ in functions()}
        eight = nine = 0
        for square in random_squares(12, 60) + random_squares(10, 60) + random_squares(6, 60):
            for name, sign in (("greats_around", 1), ("smalls_within", -1)):
                many = many_signs(square, sign)
                if many in (8, 9) and (name, len(square)) != ("greats_around", 12):
                    try:
                        self.assertEqual(len(by_name[name](square)), 256)
                        self.assertEqual(many, 8)
                        eight += 1
                    except errors.TooMany as error:
                        self.assertEqual((many, error.limit), (9, 8))
                        nine += 1
        self.assertTrue(eight > 3 and nine > 3, (eight, nine))


if __name__ == "__main__":
    unittest.main()
