"""The functions that take any value: what they say of right values, of spoilt ones, and of anything."""

import unittest

from signsquared.fullloops import are_full_loops, full_loops, square_by_loops
from signsquared.heights import heights, is_heights, square_by_heights
from signsquared.ice import ice_of, is_ice, square_by_ice
from signsquared.iceroads import are_ice_roads, ice_roads, square_by_ice_roads
from signsquared.ringties import all_ties, is_ties
from signsquared.squares import is_square
from signsquared.triangles import is_triangle, square_by_triangle, triangle
from tests import wrongs
from tests.plainly import ALL_SMALL, SMALL, plain_ties, random_squares
from tests.wrongs import spoilt

BIG = [square for sides in (1, 5, 7, 12) for square in random_squares(sides, 3)]

# Each predicate of a value, the values of squares that it tells, and the way back.
OF_SQUARES = (
    (is_heights, heights, square_by_heights, wrongs.HEIGHTS),
    (is_triangle, triangle, square_by_triangle, wrongs.TRIANGLES),
    (is_ice, ice_of, square_by_ice, wrongs.ICES),
    (are_ice_roads, ice_roads, square_by_ice_roads, wrongs.ROADS),
)


class OfSquares(unittest.TestCase):
    def test_right_values_and_back(self):
        for tells, makes, back, _ in OF_SQUARES:
            for square in ALL_SMALL + BIG:
                value = makes(square)
                self.assertIs(tells(value), True)
                self.assertEqual(back(value), square)

    def test_wrong_values(self):
        for tells, _, _, bad in OF_SQUARES:
            for value in bad:
                with self.subTest(tells=tells.__name__, value=repr(value)[:80]):
                    self.assertIs(tells(value), False)

    def test_spoilt_values(self):
        """A spoilt value is told only if it is the value of some other square."""
        for tells, makes, _, _ in OF_SQUARES:
            told = [repr(makes(square)) for square in ALL_SMALL]
            for square in SMALL[2] + SMALL[3] + SMALL[4][::9]:
                for value in spoilt(makes(square)):
                    with self.subTest(tells=tells.__name__, value=repr(value)[:80]):
                        self.assertIs(tells(value), repr(value) in told)

    def test_one_place_of_a_great_value(self):
        for tells, makes, _, _ in OF_SQUARES:
            value = makes(BIG[-1])
            for row in range(len(value)):
                items = value[row]
                for at in range(len(items)):
                    for other in (True, None, -1, "one", (0, 0), [items[at]]):
                        self.assertIs(tells(value[:row] + (items[:at] + (other,) + items[at + 1:],) + value[row + 1:]), False)


class Squares(unittest.TestCase):
    def test_right_values(self):
        for square in ALL_SMALL + BIG:
            self.assertIs(is_square(square), True)

    def test_wrong_values(self):
        for value in wrongs.SQUARES:
            with self.subTest(value=repr(value)[:80]):
                self.assertIs(is_square(value), False)

    def test_all_tables_of_three_rows(self):
        signs = [(a, b, c) for a in (-1, 0, 1) for b in (-1, 0, 1) for c in (-1, 0, 1)]
        told = [(a, b, c) for a in signs for b in signs for c in signs if is_square((a, b, c))]
        self.assertEqual(told, SMALL[3])

    def test_spoilt_values(self):
        told = [repr(square) for square in ALL_SMALL]
        for square in ALL_SMALL:
            for value in spoilt(square):
                self.assertIs(is_square(value), repr(value) in told)


class Loops(unittest.TestCase):
    def test_right_values_and_back(self):
        for square in ALL_SMALL + BIG:
            links = full_loops(square)
            self.assertIs(are_full_loops(len(square), links), True)
            self.assertEqual(square_by_loops(len(square), links), square)

    def test_other_sides(self):
        for square in ALL_SMALL:
            for sides in range(1, 13):
                self.assertIs(are_full_loops(sides, full_loops(square)), sides == len(square))

    def test_wrong_values(self):
        for value in wrongs.LOOPS:
            with self.subTest(value=repr(value)[:80]):
                self.assertIs(are_full_loops(3, value), False)

    def test_anything(self):
        for sides in (1, 2, 12):
            for value in wrongs.ANY:
                self.assertIs(are_full_loops(sides, value), False)

    def test_spoilt_values(self):
        for square in SMALL[3] + BIG[-1:]:
            for value in spoilt(full_loops(square)):
                self.assertIs(are_full_loops(len(square), value), False)

    def test_other_words(self):
        """A link with a word that is none is nowhere, wherever it stands in ascending order."""
        for square in SMALL[2] + SMALL[3]:
            links = full_loops(square)
            for at, (_, row, column) in enumerate(links):
                for word in ("", "a", "b", "acrosss", "down ", "z", None, True, 0):
                    some = links[:at] + links[at + 1:] + ((word, row, column),)
                    some = tuple(sorted(some)) if isinstance(word, str) else some
                    self.assertIs(are_full_loops(len(square), some), False)

    def test_rim_the_other_way(self):
        """The links that are not in full loops have two at each spot, too, but the wrong ones that lead out."""
        for square in SMALL[2] + SMALL[3]:
            sides, held = len(square), full_loops(square)
            every = [("across", r, c) for r in range(sides) for c in range(sides + 1)]
            every += [("down", r, c) for r in range(sides + 1) for c in range(sides)]
            self.assertIs(are_full_loops(sides, tuple(link for link in every if link not in held)), False)


class Ties(unittest.TestCase):
    def test_right_values(self):
        for pairs in (1, 2, 3, 4, 5, 6):
            for value in all_ties(pairs):
                self.assertIs(is_ties(value), True)
        self.assertIs(is_ties(tuple(range(23, -1, -1))), True)
        self.assertIs(is_ties(tuple(place ^ 1 for place in range(24))), True)

    def test_wrong_values(self):
        for value in wrongs.TIES:
            with self.subTest(value=repr(value)[:80]):
                self.assertIs(is_ties(value), False)

    def test_spoilt_values(self):
        told = [repr(value) for pairs in (1, 2, 3) for value in plain_ties(pairs)]
        for pairs in (1, 2, 3):
            for ties in all_ties(pairs):
                for value in spoilt(ties):
                    self.assertIs(is_ties(value), repr(value) in told)


if __name__ == "__main__":
    unittest.main()
