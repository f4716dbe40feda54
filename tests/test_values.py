"""Squares with notes as values: what all their operators, methods and properties do."""

import inspect
import random
import unittest

from signsquared import errors
from signsquared.lifevalues import Toned
from signsquared.notes import plain_notes
from tests import wrongs, wrongsteps
from tests.plainly import ALL_SMALL, P, Q, SMALL, U, X, order_to_square, plain_heights, points_leaning, random_squares
from tests.plainnotes import (
    all_points, as_pair, inner, of_colour, plain_notes_text, plain_notes_toggled, plain_square_text, plain_toggled,
    random_notes, random_order, random_share,
)
from tests.wrongsteps import D, N
from fractions import Fraction


def some_pairs(seed=1):
    chance = random.Random(seed)
    squares = SMALL[1] + SMALL[2] + SMALL[3] + SMALL[4][::4] + random_squares(6, 2) + random_squares(12, 1)
    return [(square, random_notes(chance, len(square))) for square in squares]


def times(notes, share):
    return tuple(tuple(as_pair(Fraction(*note) * Fraction(*share)) for note in row) for row in notes)


class Made(unittest.TestCase):
    def test_square_and_notes(self):
        for square, notes in some_pairs():
            one = Toned(square, notes)
            self.assertEqual((one.square, one.notes), (square, notes))

    def test_plain(self):
        for square in ALL_SMALL + random_squares(12, 2):
            one = Toned.plain(square)
            self.assertIs(type(one), Toned)
            self.assertEqual((one.square, one.notes), (square, plain_notes(square)))

    def test_wrong_arguments(self):
        for value in wrongs.SQUARES:
            with self.assertRaises(errors.InvalidSquare):
                Toned(value, N)
            with self.assertRaises(errors.InvalidSquare):
                Toned.plain(value)
        for value in wrongsteps.NOTES:
            with self.assertRaises(errors.InvalidNotes):
                Toned(D, value)
            with self.assertRaises(errors.InvalidSquare):
                Toned(((1, 0), (1, 0)), value)
        with self.assertRaises(errors.InvalidNotes):
            Toned(U, N)

    def test_properties_are_not_assigned(self):
        one = Toned(D, N)
        for name in ("square", "notes"):
            self.assertIsInstance(vars(Toned)[name], property)
            with self.assertRaises(AttributeError):
                setattr(one, name, X)

    def test_all_methods_stand_in_the_class(self):
        names = """__init__ plain square notes __xor__ __ixor__ __lshift__ __invert__ __mul__ __and__ __or__ __call__ __getitem__
            __contains__ __len__ __bool__ __str__ __iter__ __eq__ like""".split()
        self.assertTrue(set(names) <= set(vars(Toned)))
        self.assertEqual(Toned.__bases__, (object,))
        self.assertEqual(Toned.__module__, "signsquared.lifevalues")
        self.assertIsInstance(vars(Toned)["plain"], classmethod)
        self.assertEqual(str(inspect.signature(Toned)), "(square, notes)")


class Operators(unittest.TestCase):
    def unchanged(self, one, pair):
        self.assertEqual((one.square, one.notes), pair)

    def test_toggled(self):
        for square, notes in some_pairs():
            one = Toned(square, notes)
            for point in inner(len(square))[::1 if len(square) < 6 else 9]:
                other = one ^ point
                self.assertIs(type(other), Toned)
                self.assertIsNot(other, one)
                self.assertEqual(other.square, plain_toggled(square, point))
                self.assertEqual(other.notes, plain_notes_toggled(notes, point))
                self.assertTrue(other ^ point == one)
                self.unchanged(one, (square, notes))

    def test_toggled_in_place(self):
        for square, notes in some_pairs(2):
            for point in inner(len(square))[::1 if len(square) < 6 else 9]:
                one = same = Toned(square, notes)
                one ^= point
                self.assertIs(one, same)
                self.assertEqual(one.square, plain_toggled(square, point))
                self.assertEqual(one.notes, plain_notes_toggled(notes, point))
                self.assertTrue(one == Toned(square, notes) ^ point)
                one ^= point
                self.unchanged(same, (square, notes))

    def test_wrong_points(self):
        one = Toned(U, plain_notes(U))
        for value in wrongsteps.INNER_POINTS:
            with self.assertRaises(errors.InvalidPoint):
                one ^ value
            same = one
            with self.assertRaises(errors.InvalidPoint):
                same ^= value
            self.assertIs(same, one)
            self.unchanged(one, (U, plain_notes(U)))

    def test_by_colour(self):
        for square, notes in some_pairs():
            one = Toned(square, notes)
            for colour in (0, 1):
                told, behind = square, notes
                for point in of_colour(len(square), colour):
                    told, behind = plain_toggled(told, point), plain_notes_toggled(behind, point)
                other = one << colour
                self.assertEqual((type(other), other.square, other.notes), (Toned, told, behind))
                self.assertIsNot(other, one)
                self.assertTrue(other << colour == one)
            self.unchanged(one, (square, notes))
        for value in wrongs.integers_but(0, 1):
            with self.assertRaises(errors.InvalidNumber):
                Toned(D, N) << value

    def test_turned_over_and_times(self):
        chance = random.Random(4)
        for square, notes in some_pairs():
            one, share = Toned(square, notes), random_share(chance)
            self.assertEqual((~one).notes, tuple(tuple(note[::-1] for note in row) for row in notes))
            self.assertEqual((~one).square, square)
            self.assertTrue(~~one == one)
            self.assertEqual((one * share).notes, times(notes, share))
            self.assertEqual((one * share).square, square)
            self.assertTrue((one * share) * share[::-1] == one)
            self.assertTrue(one * (1, 1) == one)
            self.assertIsNot(one * (1, 1), one)
            self.unchanged(one, (square, notes))
        self.assertEqual((Toned(D, N) * (10 ** 119, 7))(1, 1), (3 * 10 ** 119, 7))
        for value in wrongsteps.SHARES:
            with self.assertRaises(errors.InvalidShare):
                Toned(D, N) * value

    def test_meet_and_join(self):
        chance = random.Random(6)
        for square, notes in some_pairs():
            one, order = Toned(square, notes), random_order(chance, len(square))
            tables = list(zip(plain_heights(square), plain_heights(order_to_square(order))))
            for other, pick in ((one & order, min), (one | order, max)):
                self.assertEqual(plain_heights(other.square), tuple(tuple(map(pick, *rows)) for rows in tables))
                self.assertEqual(other.notes, notes)
                self.assertIs(type(other), Toned)
                self.assertIsNot(other, one)
            self.unchanged(one, (square, notes))

    def test_wrong_orders(self):
        one = Toned(D, N)
        for value in wrongs.ORDERS:
            with self.assertRaises(errors.InvalidOrder):
                one & value
            with self.assertRaises(errors.InvalidOrder):
                one | value
        for value in ((0,), (0, 1, 2), tuple(range(12))):
            with self.assertRaises(errors.Unlike):
                one & value
            with self.assertRaises(errors.Unlike):
                one | value
        self.unchanged(one, (D, N))

    def test_other_operators_change_no_object(self):
        one = same = Toned(D, N)
        one <<= 0
        self.assertIsNot(one, same)
        one = same
        one *= (1, 2)
        one &= (0, 1)
        one |= (1, 0)
        self.unchanged(same, (D, N))
        self.assertEqual((one.square, one.notes), (((0, 1), (1, 0)), times(N, (1, 2))))


class Asked(unittest.TestCase):
    def test_notes_and_heights(self):
        for square, notes in some_pairs():
            one, table = Toned(square, notes), plain_heights(square)
            for i, j in all_points(len(square)):
                self.assertEqual(one(i, j), notes[i][j])
                self.assertEqual(one[(i, j)], table[i][j])
                self.assertEqual(one[i, j], table[i][j])

    def test_wrong_points(self):
        one = Toned(D, N)
        for value in wrongsteps.POINTS:
            with self.assertRaises(errors.InvalidPoint):
                one[value]
        for value in wrongs.integers_but(0, 2):
            with self.assertRaises(errors.InvalidPoint):
                one(value, 1)
            with self.assertRaises(errors.InvalidPoint):
                one(1, value)
            with self.assertRaises(errors.InvalidPoint):
                one(value, value)

    def test_hollows_and_hills(self):
        for square, notes in some_pairs():
            one = Toned(square, notes)
            told = points_leaning(square, 1) + points_leaning(square, -1)
            for point in all_points(len(square)):
                self.assertIs(point in one, point in told)
        one = Toned.plain(X)
        for value in wrongs.ANY + wrongsteps.INNER_POINTS:
            if repr(value) not in ("(1, 1)", "(1, 2)", "(2, 1)", "(2, 2)"):
                self.assertIs(value in one, False)

    def test_sides_and_truth(self):
        for square, notes in some_pairs():
            one = Toned(square, notes)
            self.assertEqual(len(one), len(square))
            self.assertIs(bool(one), not any(-1 in row for row in square))

    def test_text(self):
        for square, notes in some_pairs():
            self.assertEqual(str(Toned(square, notes)), plain_square_text(square) + "; " + plain_notes_text(notes))

    def test_like(self):
        chance = random.Random(7)
        for square, notes in some_pairs():
            one, share = Toned(square, notes), random_share(chance, 50)
            self.assertIs(one.like(one), True)
            self.assertIs(one.like(one * share), True)
            self.assertIs((one * share).like(one), True)
            # The square of the other one may be any of as many sides.
            self.assertIs(one.like(Toned(order_to_square(random_order(chance, len(square))), times(notes, share))), True)
            for _ in range(3):
                table = [list(row) for row in times(notes, share)]
                i, j = chance.randint(0, len(square)), chance.randint(0, len(square))
                table[i][j] = as_pair(Fraction(*table[i][j]) * Fraction(7, 5))
                other = Toned(square, tuple(map(tuple, table)))
                self.assertIs(one.like(other), False)
                self.assertIs(other.like(one), False)

    def test_like_with_other_things(self):
        one = Toned(D, N)
        for value in wrongs.ANY + [N, D, (D, N), Toned.plain(U), Toned.plain(Q), Toned.plain(((1,),))]:
            with self.assertRaises(errors.Unlike):
                one.like(value)

    def test_iterating(self):
        one = Toned(D, N)
        for ask in (iter, list, tuple, sorted, set, sum, max, enumerate, lambda some: [0 for _ in some], lambda some: [*some]):
            with self.assertRaises(TypeError):
                ask(one)
        with self.assertRaises(TypeError):
            first, second = one

    def test_equality(self):
        pairs = some_pairs()
        for at, (square, notes) in enumerate(pairs):
            one = Toned(square, notes)
            self.assertIs(one == Toned(square, notes), True)
            self.assertIs(one != Toned(square, notes), False)
            for other, more in pairs[at + 1:]:
                self.assertIs(one == Toned(other, more), False)
                if len(other) == len(square):
                    self.assertIs(one == Toned(square, more), False)
                    self.assertIs(one == Toned(other, notes), False)
        one = Toned(D, N)
        for value in wrongs.ANY + [D, N, (D, N), [D, N], str(one), one.notes, wrongs.BENCH]:
            self.assertIs(one == value, False)
            self.assertIs(value == one, False)
            self.assertIs(one != value, True)

    def test_other_things_do_not_decide(self):
        class Always:
            def __eq__(self, other):
                return True

        self.assertIs(Toned(D, N) == Always(), False)


if __name__ == "__main__":
    unittest.main()
