"""Floors, couples, blocks and shuffles, held against plain reckonings."""

import itertools
import unittest

from signsquared.blocks import block_turned, laying_meet, laying_rise, turn_blocks, turns_between
from signsquared.couples import do_fit, floor_couple, floor_laying, greats_around, smalls_within
from signsquared.floors import flat_dominoes, floor_cells, floor_layings, is_floor_laying, upright_laying
from signsquared.shuffles import growth_signs, grown_laying, shrunk_laying, slid_dominoes
from signsquared.squares import is_square, last_square, unit_square
from tests import wrongs
from tests.plainfloors import (
    lesser, plain_blocks, plain_cells, plain_couples, plain_fit, plain_laying, plain_layings, plain_rise, plain_slid,
    random_layings, turn, upright,
)
from tests.plainly import ALL_SMALL, SMALL, plain_heights, random_squares
from tests.wrongs import spoilt

SMALL_LAYINGS = [(size, laying) for size in (1, 2, 3) for laying in plain_layings(size)]
GREAT_LAYINGS = [(size, laying) for size in (4, 5, 8, 11) for laying in random_layings(size, 3)]
MANY = SMALL_LAYINGS + GREAT_LAYINGS + [(size, upright(size)) for size in (4, 10, 11)]


def tables(size, laying):
    return [plain_heights(square) for square in floor_couple(size, laying)]


class Floors(unittest.TestCase):
    def test_cells(self):
        for size in range(1, 12):
            self.assertEqual(floor_cells(size), plain_cells(size))
            self.assertEqual(len(floor_cells(size)), 2 * size * (size + 1))

    def test_all_layings(self):
        for size in (1, 2, 3):
            self.assertEqual(floor_layings(size), plain_layings(size))
            self.assertEqual(len(floor_layings(size)), 2 ** (size * (size + 1) // 2))

    def test_upright_layings(self):
        for size in range(1, 12):
            self.assertEqual(upright_laying(size), upright(size))
            self.assertIs(is_floor_laying(size, upright(size)), True)
            self.assertEqual(flat_dominoes(size, upright(size)), 0)
            self.assertEqual(floor_laying(unit_square(size), unit_square(size + 1)), upright(size))
            flat = floor_laying(last_square(size), last_square(size + 1))
            self.assertEqual(flat_dominoes(size, flat), size * (size + 1))

    def test_flat_dominoes(self):
        for size, laying in MANY:
            self.assertEqual(flat_dominoes(size, laying), sum(a[0] == b[0] for a, b in laying))

    def test_is_floor_laying(self):
        for size, laying in MANY:
            for other in range(1, 12):
                self.assertIs(is_floor_laying(other, laying), other == size)

    def test_spoilt_layings(self):
        for size, laying in SMALL_LAYINGS[::3] + GREAT_LAYINGS[:1]:
            told = [repr(some) for some in plain_layings(size)] if size < 4 else []
            for value in spoilt(laying):
                self.assertIs(is_floor_laying(size, value), repr(value) in told)

    def test_one_domino_in_the_wrong_place(self):
        for size, laying in SMALL_LAYINGS[2:] + GREAT_LAYINGS[-1:]:
            for at, ((row, column), _) in enumerate(laying[:12]):
                for other in (
                    ((row, column), (row, column + 2)), ((row, column), (row + 2, column)), ((row, column), (row + 1, column + 1)),
                    ((row, column), (row, column)), ((row, column + 1), (row, column)), ((row - 1, column), (row, column)),
                    laying[at - 1],
                ):
                    value = laying[:at] + (other,) + laying[at + 1:]
                    if other not in laying or other == laying[at - 1]:
                        self.assertIs(is_floor_laying(size, value), False)
                        self.assertIs(is_floor_laying(size, tuple(sorted(value))), value in plain_layings(2))
            self.assertIs(is_floor_laying(size, laying[::-1]), False)
            self.assertIs(is_floor_laying(size, laying[1:] + laying[:1]), False)

    def test_anything(self):
        for size in (1, 2, 11):
            for value in wrongs.ANY:
                self.assertIs(is_floor_laying(size, value), False)
        for value in wrongs.LAYINGS:
            self.assertIs(is_floor_laying(2, value), False)


class Couples(unittest.TestCase):
    def test_fitting(self):
        for small in ALL_SMALL:
            for great in ALL_SMALL:
                self.assertIs(do_fit(small, great), plain_fit(small, great))

    def test_there_and_back(self):
        for size in (1, 2, 3):
            told = []
            for small, great in plain_couples(size):
                laying = floor_laying(small, great)
                self.assertEqual(laying, plain_laying(small, great))
                self.assertEqual(floor_couple(size, laying), (small, great))
                told.append(laying)
            self.assertEqual(sorted(told), plain_layings(size))

    def test_great_layings(self):
        for size, laying in MANY:
            small, great = floor_couple(size, laying)
            self.assertTrue(is_square(small) and is_square(great))
            self.assertEqual((len(small), len(great)), (size, size + 1))
            self.assertTrue(plain_fit(small, great))
            self.assertEqual(plain_laying(small, great), laying)
            self.assertEqual(floor_laying(small, great), laying)

    def test_around(self):
        for small in SMALL[1] + SMALL[2] + SMALL[3]:
            told = [great for great in SMALL[len(small) + 1] if plain_fit(small, great)]
            self.assertEqual(greats_around(small), told)
        for square in SMALL[4] + random_squares(6, 20) + [unit_square(8), last_square(8)]:
            ones = sum(row.count(1) for row in square)
            if ones <= 8:
                told = greats_around(square)
                self.assertEqual(told, sorted(set(told)))
                self.assertEqual(len(told), 2 ** ones)
                self.assertTrue(all(is_square(great) and plain_fit(square, great) for great in told))

    def test_within(self):
        for great in SMALL[2] + SMALL[3] + SMALL[4]:
            told = [small for small in SMALL[len(great) - 1] if plain_fit(small, great)]
            self.assertEqual(smalls_within(great), told)
        for square in random_squares(6, 20) + random_squares(12, 40) + [unit_square(12), last_square(12)]:
            minus = sum(row.count(-1) for row in square)
            if minus <= 8:
                told = smalls_within(square)
                self.assertEqual(told, sorted(set(told)))
                self.assertEqual(len(told), 2 ** minus)
                self.assertTrue(all(is_square(small) and plain_fit(small, square) for small in told))


class Blocks(unittest.TestCase):
    def test_turn_blocks(self):
        for size, laying in MANY:
            self.assertEqual(turn_blocks(size, laying), sorted(plain_blocks(laying)))

    def test_turned_blocks(self):
        for size, laying in MANY:
            small, great = tables(size, laying)
            for cell in turn_blocks(size, laying):
                turned = block_turned(size, laying, cell)
                self.assertEqual(turned, turn(laying, cell))
                self.assertEqual(block_turned(size, turned, cell), laying)
                other_small, other_great = tables(size, turned)
                was_upright = (cell, (cell[0] + 1, cell[1])) in laying
                changes = [
                    (name, other[i][j] - table[i][j])
                    for name, table, other in (("small", small, other_small), ("great", great, other_great))
                    for i in range(len(table)) for j in range(len(table)) if other[i][j] != table[i][j]
                ]
                self.assertEqual(len(changes), 1)
                self.assertIn(changes[0], [("great", 2), ("small", -2)] if was_upright else [("great", -2), ("small", 2)])

    def test_rise(self):
        for size, laying in MANY:
            small, great = floor_couple(size, laying)
            self.assertEqual(laying_rise(size, laying), plain_rise(small) + plain_rise(great))
        self.assertEqual(laying_rise(11, floor_laying(last_square(11), last_square(12))), 506)

    def pairs(self):
        for size in (1, 2, 3):
            yield from ((size, one, other) for one in plain_layings(size) for other in plain_layings(size)[::3])
        for size in (4, 5, 8, 11):
            yield from ((size, one, other) for one, other in itertools.product(random_layings(size, 3), repeat=2))
        highest = floor_laying(last_square(11), last_square(12))
        yield from ((11, upright(11), highest), (11, highest, upright(11)))

    def test_meet(self):
        for size, one, other in self.pairs():
            told = [lesser(*two) for two in zip(floor_couple(size, one), floor_couple(size, other))]
            self.assertEqual(laying_meet(size, one, other), plain_laying(*told))

    def test_turns_between(self):
        for size, one, other in self.pairs():
            turns = turns_between(size, one, other)
            self.assertIsInstance(turns, tuple)
            least = laying_rise(size, one) + laying_rise(size, other) - 2 * laying_rise(size, laying_meet(size, one, other))
            self.assertEqual(len(turns), least)
            come = one
            for cell in turns:
                come = turn(come, cell)
            self.assertEqual(come, other)

    def test_turns_are_as_few_as_can_be(self):
        for size in (1, 2, 3):
            for start in plain_layings(size)[::5]:
                steps, newest, many = {start: 0}, [start], 0
                while newest:
                    many += 1
                    come = {turn(laying, cell) for laying in newest for cell in plain_blocks(laying)}
                    newest = [laying for laying in come if laying not in steps]
                    steps.update(dict.fromkeys(newest, many))
                for other in plain_layings(size):
                    self.assertEqual(len(turns_between(size, start, other)), steps[other])


class Shuffles(unittest.TestCase):
    def test_slid(self):
        for size, laying in MANY:
            if size <= 10:
                self.assertEqual(slid_dominoes(size, laying), plain_slid(size, laying))

    def all_signs(self, many):
        return itertools.product((0, 1), repeat=many)

    def test_grown(self):
        for size, laying in SMALL_LAYINGS:
            great = floor_couple(size, laying)[1]
            ones = [(i, j) for i in range(size + 1) for j in range(size + 1) if great[i][j] == 1]
            told = []
            for signs in self.all_signs(len(ones)):
                grown = grown_laying(size, laying, signs)
                self.check_grown(size, laying, signs, grown)
                told.append(grown)
            self.assertEqual(len(set(told)), 2 ** len(ones))

    def check_grown(self, size, laying, signs, grown):
        great = floor_couple(size, laying)[1]
        self.assertTrue(is_floor_laying(size + 1, grown))
        small, greater = floor_couple(size + 1, grown)
        self.assertEqual(small, great)
        s, g = plain_heights(small), plain_heights(greater)
        ones = [(i, j) for i in range(size + 1) for j in range(size + 1) if small[i][j] == 1]
        self.assertEqual(signs, tuple(int(g[i + 1][j + 1] > s[i][j]) for i, j in ones))
        self.assertEqual(growth_signs(size + 1, grown), signs)
        slid = slid_dominoes(size, laying)
        self.assertTrue(set(slid) <= set(grown))
        self.check_rest_is_blocks(size + 1, slid, len(ones))

    def check_rest_is_blocks(self, size, slid, many):
        covered = {cell for domino in slid for cell in domino}
        rest = [cell for cell in plain_cells(size) if cell not in covered]
        self.assertEqual(len(rest), 4 * many)
        while rest:
            row, column = rest[0]
            for cell in ((row, column), (row, column + 1), (row + 1, column), (row + 1, column + 1)):
                rest.remove(cell)

    def test_great_ones_grown(self):
        for size, laying in GREAT_LAYINGS + [(10, upright(10))]:
            if size <= 10:
                ones = sum(row.count(1) for row in floor_couple(size, laying)[1])
                for signs in ((0,) * ones, (1,) * ones, tuple(at % 2 for at in range(ones))):
                    self.check_grown(size, laying, signs, grown_laying(size, laying, signs))

    def test_shrunk(self):
        for size, laying in [(size, laying) for size, laying in MANY if size > 1]:
            small = floor_couple(size, laying)[0]
            minus = [(i, j) for i in range(size) for j in range(size) if small[i][j] == -1]
            told = []
            for signs in list(self.all_signs(len(minus)))[:40]:
                shrunk = shrunk_laying(size, laying, signs)
                self.assertTrue(is_floor_laying(size - 1, shrunk))
                least, great = floor_couple(size - 1, shrunk)
                self.assertEqual(great, small)
                s, g = plain_heights(least), plain_heights(great)
                self.assertEqual(signs, tuple(int(s[i][j] < g[i][j]) for i, j in minus))
                self.assertEqual(grown_laying(size - 1, shrunk, growth_signs(size, laying)), laying)
                told.append(shrunk)
            self.assertEqual(len(set(told)), min(40, 2 ** len(minus)))

    def test_minuses_were_met(self):
        """Some layings of size 3 and more have minuses in their small square, so that signs are not all empty."""
        many = [sum(row.count(-1) for row in floor_couple(size, laying)[0]) for size, laying in MANY if size > 1]
        self.assertGreater(max(many), 4)


if __name__ == "__main__":
    unittest.main()
