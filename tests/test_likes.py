"""Moves, squares like themselves, how many there are, and the nearest ones, held against lists of all squares."""

import itertools
import random
import unittest

from signsquared.heights import heights, rise
from signsquared.likecounts import count_by_move
from signsquared.likelists import count_like, count_looks, squares_like, told_cells
from signsquared.likemoves import all_looks, is_like, move_behind, moved_by, moves_made, own_moves
from signsquared.likenear import apart_squares, like_above, like_below, nearest_like
from signsquared.below import join, meet
from signsquared.squarelists import count_squares
from tests.plainfacts import LISTED
from tests.plainly import SMALL, plain_below, plain_heights, points_leaning, random_squares, square_of_heights
from tests.plainnotes import WORDS, plain_made, plain_moved

MOVES = [word for word in WORDS if word != "stay"]
LOTS = [lot for size in (1, 2, 3, 7) for lot in itertools.combinations(MOVES, size)]
KEEPING = [lot for lot in LOTS if set(lot) <= {"half", "slanted", "tipped"}]
SOME = SMALL[1] + SMALL[2] + SMALL[3] + SMALL[4] + random_squares(7, 3) + random_squares(12, 3)


def plain_like(square, lot):
    return all(plain_moved(square, move) == square for move in lot)


class Moves(unittest.TestCase):
    def test_each_move(self):
        for square in SOME:
            for move in WORDS:
                self.assertEqual(moved_by(square, move), plain_moved(square, move))

    def test_one_move_behind_another(self):
        for move, last in itertools.product(WORDS, repeat=2):
            both = move_behind(move, last)
            self.assertIn(both, WORDS)
            for square in SOME[::5]:
                self.assertEqual(moved_by(square, both), plain_moved(plain_moved(square, move), last))

    def test_moves_make_a_group(self):
        for one, two, three in itertools.product(WORDS, repeat=3):
            self.assertEqual(move_behind(move_behind(one, two), three), move_behind(one, move_behind(two, three)))
        for move in WORDS:
            self.assertEqual(move_behind("stay", move), move)
            self.assertEqual(move_behind(move, "stay"), move)
        self.assertEqual([move_behind(word, word) for word in WORDS], ["stay", "stay", "half", "stay", "stay", "half", "stay", "stay"])
        self.assertEqual(move_behind("quarter", "three"), "stay")

    def test_moves_that_lots_make(self):
        for lot in LOTS:
            self.assertEqual(moves_made(lot), plain_made(lot))
        self.assertEqual({len(moves_made(lot)) for lot in LOTS}, {2, 4, 8})

    def test_own_moves_and_looks(self):
        for square in SOME:
            own = [move for move in WORDS if plain_moved(square, move) == square]
            self.assertEqual(own_moves(square), own)
            looks = all_looks(square)
            self.assertEqual(looks, sorted({plain_moved(square, move) for move in WORDS}))
            self.assertEqual(len(looks) * len(own), 8)

    def test_like(self):
        for square in SOME[::3] + SMALL[3]:
            for lot in LOTS:
                self.assertIs(is_like(square, lot), plain_like(square, lot))

    def test_moves_on_heights(self):
        """Some moves keep what is below what, the others turn it round; mirrored heights are told by the sides."""
        for sides in (3, 4):
            for one, other in itertools.product(SMALL[sides][::3], SMALL[sides][::2]):
                if plain_below(one, other):
                    for move in WORDS:
                        two = moved_by(one, move), moved_by(other, move)
                        keeps = move in ("stay", "half", "slanted", "tipped")
                        self.assertTrue(plain_below(*two) if keeps else plain_below(*two[::-1]))
        for square in SOME:
            sides, told = len(square), heights(square)
            points = range(sides + 1)
            mirrored = tuple(tuple(sides - told[i][sides - j] for j in points) for i in points)
            self.assertEqual(heights(moved_by(square, "mirrored")), mirrored)


class Lists(unittest.TestCase):
    def test_lists_and_counts(self):
        for sides in (1, 2, 3, 4, 5):
            for lot in LOTS:
                told = [square for square in LISTED[sides] if plain_like(square, lot)]
                self.assertEqual(squares_like(sides, lot), told)
                self.assertEqual(count_like(sides, lot), len(told))

    def test_six_sides(self):
        for lot in [(move,) for move in MOVES] + [("half", "tipped")]:
            told = [square for square in LISTED[6] if plain_like(square, lot)]
            self.assertEqual(squares_like(6, lot), told)
            self.assertEqual(count_like(6, lot), len(told))

    def test_told_cells(self):
        for sides in (1, 2, 3, 4, 5):
            for lot in LOTS:
                told = [square for square in LISTED[sides] if plain_like(square, lot)]
                same = [
                    ((i, j), told[0][i][j]) for i in range(sides) for j in range(sides)
                    if told and len({square[i][j] for square in told}) == 1
                ]
                self.assertEqual(told_cells(sides, lot), same)

    def test_looks(self):
        told = []
        for sides in (1, 2, 3, 4, 5):
            told.append(len({min(plain_moved(square, move) for move in WORDS) for square in LISTED[sides]}))
            self.assertEqual(count_looks(sides), told[-1])
        self.assertEqual(count_looks(6), len({min(plain_moved(square, move) for move in WORDS) for square in LISTED[6]}))

    def test_no_square_is_like_itself_by_these(self):
        for sides in (2, 4, 6):
            self.assertEqual(squares_like(sides, ("mirrored",)), [])
            self.assertEqual(squares_like(sides, ("upended",)), [])
            self.assertEqual(told_cells(sides, ("mirrored",)), [])
        for sides in (2, 6):
            self.assertEqual(squares_like(sides, ("quarter",)), [])
            self.assertEqual(count_like(sides, ("three",)), 0)


class Counts(unittest.TestCase):
    def test_few_sides(self):
        for move in ("half", "mirrored", "quarter", "upended"):
            for sides in range(1, 7):
                self.assertEqual(count_by_move(sides, move), sum(plain_like(some, (move,)) for some in LISTED[sides]))

    def plain_mirrored(self, sides):
        """Squares like themselves by "mirrored", counted by what the columns come to row by row."""
        ways = {(0,) * sides: 1}
        for _ in range(sides):
            further = {}
            for state, many in ways.items():
                for row in self.rows_like_themselves(state):
                    behind = tuple(come + sign for come, sign in zip(state, row))
                    further[behind] = further.get(behind, 0) + many
            ways = further
        return ways[(1,) * sides]

    def rows_like_themselves(self, state):
        begun = [((), 0)]
        for come in state[:len(state) // 2 + 1]:
            begun = [
                (row + (sign,), so_far + sign) for row, so_far in begun for sign in (-1, 0, 1)
                if 0 <= come + sign <= 1 and 0 <= so_far + sign <= 1
            ]
        whole = [row + row[-2::-1] if len(row) > 1 else row for row, _ in begun]
        return [row for row in whole if sum(row) == 1 and all(0 <= sum(row[:at]) <= 1 for at in range(len(row)))]

    def test_mirrored_of_more_sides(self):
        for sides in (1, 3, 5, 7, 9):
            told = self.plain_mirrored(sides)
            self.assertEqual(count_by_move(sides, "mirrored"), told)
            self.assertEqual(count_by_move(sides, "upended"), told)

    def test_known_numbers(self):
        """As many as others have found for these sides."""
        self.assertEqual([count_by_move(sides, "half") for sides in range(1, 10)], [1, 2, 3, 10, 25, 140, 588, 5544, 39204])
        self.assertEqual([count_by_move(sides, "mirrored") for sides in range(1, 16, 2)], [1, 1, 3, 26, 646, 45885, 9304650, 5382618660])
        self.assertEqual([count_by_move(sides, "quarter") for sides in (1, 3, 4, 5, 7, 8, 9, 11)], [1, 1, 2, 3, 12, 40, 100, 1225])

    def test_all_sides(self):
        for sides in range(1, 61):
            half, quarter, mirrored = (count_by_move(sides, move) for move in ("half", "quarter", "mirrored"))
            self.assertTrue(0 < half <= count_squares(sides))
            self.assertEqual((count_squares(sides) - half) % 2, 0)
            self.assertEqual(quarter == 0, sides % 4 == 2)
            self.assertEqual((half - quarter) % 2, 0)
            self.assertEqual(mirrored == 0, sides % 2 == 0)
            self.assertEqual(count_by_move(sides, "upended"), mirrored)
            if sides % 4 == 0:
                self.assertEqual(quarter, count_by_move(sides // 2, "half") * count_squares(sides // 4) ** 2)
            for told in (half, quarter, mirrored):
                self.assertIs(type(told), int)


class Near(unittest.TestCase):
    def test_below_and_above(self):
        for sides in (1, 2, 3, 4):
            for lot in KEEPING:
                some = [square for square in SMALL[sides] if plain_like(square, lot)]
                for square in SMALL[sides]:
                    lower = [other for other in some if plain_below(other, square)]
                    upper = [other for other in some if plain_below(square, other)]
                    self.assertEqual([like_below(square, lot)], [one for one in lower if all(plain_below(two, one) for two in lower)])
                    self.assertEqual([like_above(square, lot)], [one for one in upper if all(plain_below(one, two) for two in upper)])

    def test_meets_and_joins_of_all_moves(self):
        for square in random_squares(7, 4) + random_squares(12, 4):
            for lot in KEEPING:
                low = high = square
                for move in plain_made(lot):
                    low, high = meet(low, plain_moved(square, move)), join(high, plain_moved(square, move))
                self.assertEqual((like_below(square, lot), like_above(square, lot)), (low, high))
                self.assertTrue(plain_like(low, lot) and plain_like(high, lot))

    def steps_from(self, square):
        """How many raisings and lowerings lead from a square to each other one."""
        steps, newest = {square: 0}, [square]
        while newest:
            further = []
            for one in newest:
                for by in (1, -1):
                    for i, j in points_leaning(one, by):
                        table = [list(row) for row in plain_heights(one)]
                        table[i][j] += 2 * by
                        other = square_of_heights(table)
                        if other not in steps:
                            steps[other] = steps[one] + 1
                            further.append(other)
            newest = further
        return steps

    def test_how_far_apart(self):
        for sides in (1, 2, 3, 4):
            for square in SMALL[sides][::2]:
                steps = self.steps_from(square)
                self.assertEqual(len(steps), len(SMALL[sides]))
                for other in SMALL[sides]:
                    self.assertEqual(apart_squares(square, other), steps[other])
                    self.assertEqual(apart_squares(other, square), steps[other])

    def test_how_far_apart_with_many_sides(self):
        for one, other in zip(random_squares(12, 6, 1), random_squares(12, 6, 2)):
            self.assertEqual(apart_squares(one, other), rise(one) + rise(other) - 2 * rise(meet(one, other)))

    def test_nearest(self):
        chance = random.Random(4)
        for sides in (1, 2, 3, 4, 5):
            for lot in chance.sample(LOTS, 25):
                some = [square for square in LISTED[sides] if plain_like(square, lot)]
                for square in chance.sample(LISTED[sides], min(6, len(LISTED[sides]))):
                    if not some:
                        self.assertIsNone(nearest_like(square, lot))
                        continue
                    table, apart = plain_heights(square), []
                    for other in some:
                        pairs = [two for rows in zip(table, plain_heights(other)) for two in zip(*rows)]
                        apart.append(sum(abs(one - two) for one, two in pairs) // 2)
                    told = [other for other, far in zip(some, apart) if far == min(apart)]
                    self.assertEqual(nearest_like(square, lot), (min(apart), told))

    def test_nearest_of_what_is_like_itself(self):
        for square in SMALL[4]:
            own = tuple(move for move in own_moves(square) if move != "stay")
            if own:
                self.assertEqual(nearest_like(square, own), (0, [square]))


if __name__ == "__main__":
    unittest.main()
