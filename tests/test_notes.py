"""Notes, toggles of notes and of squares, and the shortest ways of toggles, held against plain reckonings."""

import itertools
import random
import unittest

from signsquared.heights import heights, hills, hollows, lowered, raised
from signsquared.notes import are_notes, notes_by_colour, notes_toggled, plain_notes
from signsquared.squares import last_square, mirrored, tipped, unit_square, upended
from signsquared.toggles import apart, is_toggle_way, toggle_way, toggled, toggled_colour
from tests import wrongsteps
from tests.plainly import P, SMALL, X, neighbours, plain_heights, random_squares
from tests.plainnotes import (
    all_points, as_pair, inner, of_colour, plain_moved, plain_notes_toggled, plain_toggled, random_notes,
)
from tests.wrongs import ANY, NOTES_OF_ONE
from fractions import Fraction

SOME = SMALL[1] + SMALL[2] + SMALL[3] + SMALL[4] + random_squares(6, 4) + random_squares(12, 2)


def lots_of_notes(seed=1):
    """Sides with notes of so many, with small and with great integers."""
    chance = random.Random(seed)
    found = [(sides, random_notes(chance, sides, most)) for sides in (1, 2, 3, 4) for most in (1, 2, 9, 1000, 10 ** 119)]
    return found + [(12, random_notes(chance, 12, 9))]


def times(notes, share):
    return tuple(tuple(as_pair(Fraction(*note) * Fraction(*share)) for note in row) for row in notes)


def over(notes):
    return tuple(tuple(note[::-1] for note in row) for row in notes)


class AreNotes(unittest.TestCase):
    def test_right_ones(self):
        for sides, notes in lots_of_notes():
            for other in (1, 2, 3, 4, 5, 11, 12):
                self.assertIs(are_notes(other, notes), other == sides)
        for square in SOME:
            self.assertIs(are_notes(len(square), plain_notes(square)), True)
        self.assertIs(are_notes(1, NOTES_OF_ONE), True)

    def test_wrong_ones(self):
        for value in wrongsteps.NOTES:
            with self.subTest(value=repr(value)[:80]):
                self.assertIs(are_notes(2, value), False)
        for value in ANY:
            self.assertIs(are_notes(12, value), False)

    def test_each_share(self):
        for top, below in itertools.product(range(-3, 14), repeat=2):
            right = top > 0 and below > 0 and as_pair(Fraction(top, below)) == (top, below)
            self.assertIs(are_notes(2, wrongsteps.other_note((top, below))), right)


class Notes(unittest.TestCase):
    def test_plain(self):
        for square in SOME:
            told = tuple(tuple((2 ** height, 1) for height in row) for row in plain_heights(square))
            self.assertEqual(plain_notes(square), told)

    def test_toggled(self):
        for sides, notes in lots_of_notes():
            for point in inner(sides)[::1 if sides < 5 else 7]:
                behind = notes_toggled(sides, notes, point)
                self.assertEqual(behind, plain_notes_toggled(notes, point))
                self.assertIs(are_notes(sides, behind), True)
                self.assertEqual(notes_toggled(sides, behind, point), notes)

    def test_points_that_are_no_neighbours(self):
        for sides, notes in lots_of_notes()[:-1]:
            for one, other in itertools.combinations(inner(sides), 2):
                both = [
                    notes_toggled(sides, notes_toggled(sides, notes, first), last) for first, last in ((one, other), (other, one))
                ]
                if other not in neighbours(*one):
                    self.assertEqual(both[0], both[1])

    def test_neighbours_do_not_change_places(self):
        notes = random_notes(random.Random(2), 3)
        both = [notes_toggled(3, notes_toggled(3, notes, one), other) for one, other in (((1, 1), (1, 2)), ((1, 2), (1, 1)))]
        self.assertNotEqual(both[0], both[1])

    def test_by_colour(self):
        for sides, notes in lots_of_notes():
            for colour in (0, 1):
                told = notes
                for point in of_colour(sides, colour)[::-1]:
                    told = plain_notes_toggled(told, point)
                self.assertEqual(notes_by_colour(sides, notes, colour), told)
                self.assertEqual(notes_by_colour(sides, told, colour), notes)

    def test_plain_notes_toggled(self):
        """At a hollow or a hill, they are the plain notes of the square then."""
        for square in SOME:
            for point in hollows(square) + hills(square):
                told = notes_toggled(len(square), plain_notes(square), point)
                self.assertEqual(told, plain_notes(toggled(square, point)))

    def test_plain_notes_elsewhere(self):
        """On a slope of one kind they stay, on the other kinds they do not have to be plain ones."""
        square = unit_square(3)
        self.assertEqual(notes_toggled(3, plain_notes(square), (1, 2)), plain_notes(square))

    def test_toggling_goes_along(self):
        """With tipping, mirroring and upending, with all notes times a share, and with 1 divided by all notes."""
        for sides, notes in lots_of_notes(3)[:-1]:
            for i, j in inner(sides):
                behind = notes_toggled(sides, notes, (i, j))
                for move, point in (("tipped", (j, i)), ("mirrored", (i, sides - j)), ("upended", (sides - i, j))):
                    self.assertEqual(notes_toggled(sides, plain_moved(notes, move), point), plain_moved(behind, move))
                self.assertEqual(notes_toggled(sides, times(notes, (7, 3)), (i, j)), times(behind, (7, 3)))
                self.assertEqual(notes_toggled(sides, over(notes), (i, j)), over(behind))


class Squares(unittest.TestCase):
    def test_toggled(self):
        for square in SOME:
            low, high = hollows(square), hills(square)
            for point in inner(len(square)):
                told = raised(square, point) if point in low else lowered(square, point) if point in high else square
                self.assertEqual(toggled(square, point), told)
                self.assertEqual(toggled(told, point), square)
                self.assertEqual(told, plain_toggled(square, point))

    def test_heights(self):
        """A toggled height is the greatest and the least one of its neighbours, added, less its own."""
        for square in SOME:
            table = heights(square)
            for i, j in inner(len(square)):
                around = [table[a][b] for a, b in neighbours(i, j)]
                behind = heights(toggled(square, (i, j)))
                self.assertEqual(behind[i][j], max(around) + min(around) - table[i][j])
                rest = [behind[a][b] == table[a][b] for a, b in all_points(len(square)) if (a, b) != (i, j)]
                self.assertTrue(all(rest))

    def test_points_that_are_no_neighbours(self):
        for square in SMALL[3] + SMALL[4]:
            for one, other in itertools.combinations(inner(len(square)), 2):
                if other not in neighbours(*one):
                    self.assertEqual(toggled(toggled(square, one), other), toggled(toggled(square, other), one))

    def test_by_colour(self):
        for square in SOME:
            for colour in (0, 1):
                told = square
                for point in of_colour(len(square), colour)[::-1]:
                    told = plain_toggled(told, point)
                self.assertEqual(toggled_colour(square, colour), told)
                self.assertEqual(toggled_colour(told, colour), square)

    def test_toggling_goes_along(self):
        for square in SMALL[3] + SMALL[4] + random_squares(7, 2):
            sides = len(square)
            for i, j in inner(sides):
                behind = toggled(square, (i, j))
                self.assertEqual(toggled(tipped(square), (j, i)), tipped(behind))
                self.assertEqual(toggled(mirrored(square), (i, sides - j)), mirrored(behind))
                self.assertEqual(toggled(upended(square), (sides - i, j)), upended(behind))


class Ways(unittest.TestCase):
    def toggles_from(self, square):
        steps, newest = {square: 0}, [square]
        while newest:
            further = []
            for one in newest:
                for point in inner(len(square)):
                    other = plain_toggled(one, point)
                    if other not in steps:
                        steps[other] = steps[one] + 1
                        further.append(other)
            newest = further
        return steps

    def check_way(self, one, other):
        way = toggle_way(one, other)
        self.assertIsInstance(way, tuple)
        self.assertEqual(len(way), apart(one, other))
        self.assertIs(is_toggle_way(one, other, way), True)
        come = one
        for point in way:
            come = plain_toggled(come, point)
        self.assertEqual(come, other)
        return way

    def test_few_sides(self):
        for sides in (1, 2, 3, 4):
            for one in SMALL[sides][::2]:
                steps = self.toggles_from(one)
                self.assertEqual(sorted(steps), SMALL[sides])
                for other in SMALL[sides]:
                    self.assertEqual(apart(one, other), steps[other])
                    self.check_way(one, other)

    def test_many_sides(self):
        pairs = list(zip(random_squares(12, 4, 1), random_squares(12, 4, 2))) + [(unit_square(12), last_square(12)), (last_square(7), unit_square(7))]
        for one, other in pairs:
            differ = sum(abs(a - b) for rows in zip(plain_heights(one), plain_heights(other)) for a, b in zip(*rows))
            self.assertEqual(2 * apart(one, other), differ)
            self.check_way(one, other)

    def test_all_tuples_of_three_sides(self):
        for one, other in itertools.product(SMALL[3], repeat=2):
            for size in range(4):
                for value in itertools.product(inner(3), repeat=size):
                    come = one
                    for point in value:
                        come = plain_toggled(come, point)
                    self.assertIs(is_toggle_way(one, other, value), come == other and size == apart(one, other))

    def test_wrong_ways(self):
        way = ((2, 1), (1, 2))
        self.assertIs(is_toggle_way(P, tipped(P), way), True)
        for value in ANY + [
            list(way), ([2, 1], (1, 2)), ((2, True), (1, 2)), ((2, 1), (True, 2)), way + ((1, 1),), way[:1], way[1:], way * 2, ((2, 1), (0, 2)),
            ((2, 1), (1, 3)), ((2, 1), (-1, 2)), ((2, 1, 0), (1, 2)), ((2, 1), None), ("21", "12"), ((1, 1), (2, 2)), ((2, 1), (2, 1)),
            ((2, 1), (1, 1), (1, 1), (1, 2)), ((0, 0), (2, 1), (1, 2)), ((3, 1), (1, 2)),
        ]:
            self.assertIs(is_toggle_way(P, tipped(P), value), False, value)
        for value in ANY:
            self.assertIs(is_toggle_way(X, X, value), repr(value) == "()")
        self.assertIs(is_toggle_way(((1,),), ((1,),), ((0, 0),)), False)


if __name__ == "__main__":
    unittest.main()
