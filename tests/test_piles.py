"""Piles, their roads, tiles and counts, and full piles, held against plain reckonings."""

import itertools
import random
import unittest

from signsquared.fullpiles import corner_of, count_full, full_by_corner, full_piles, is_full
from signsquared.helpers import determinant
from signsquared.pilecounts import count_by_cubes, count_like_piles, count_piles, piles
from signsquared.pilefloors import is_laying, pile_by_tiles, points_down, points_up, tiles_of, tiles_turned
from signsquared.pileroads import are_roads, count_apart, pile_by_roads, road_points, road_table, roads_of
from signsquared.piles import (
    cube_off, cube_on, cubes_of, is_like_pile, is_pile, least_turns, pile_filled, pile_tipped, pile_turned, pile_with,
    spots_off, spots_on,
)
from signsquared.squarelists import count_squares
from tests import wrongs
from tests.plainpiles import (
    EVERY_PILE, GREAT_PILES, MANY_PILES, SMALL_BOXES, cubes, done, is_like, pile_by, plain_apart, plain_count, plain_piles,
    plain_roads_of, plain_tiles, random_pile, walked,
)
from tests.wrongs import spoilt

WORDS = ("turned", "tipped", "filled")
UPS, DOWNS = [(0, 0, 0), (1, 0, 0), (2, 0, 0)], [(0, -1, -1), (1, 1, 0), (2, 0, 1)]


class Piles(unittest.TestCase):
    def test_is_pile(self):
        for box, pile in MANY_PILES:
            self.assertIs(is_pile(box, pile), True)
        for box in SMALL_BOXES:
            if box[0] * box[1] <= 6:
                every = itertools.product(range(-1, box[2] + 2), repeat=box[0] * box[1])
                rows = [tuple(flat[box[1] * i:box[1] * (i + 1)] for i in range(box[0])) for flat in itertools.islice(every, 3000)]
                self.assertEqual([some for some in rows if is_pile(box, some)], [some for some in rows if some in plain_piles(box)])

    def test_in_other_boxes(self):
        for _, pile in EVERY_PILE[::7]:
            for box in SMALL_BOXES:
                told = (len(pile), len(pile[0])) == box[:2] and pile[0][0] <= box[2]
                self.assertIs(is_pile(box, pile), told)

    def test_spoilt_piles(self):
        for box, pile in EVERY_PILE[::11] + GREAT_PILES[:1]:
            told = [repr(some) for some in plain_piles(box)] if box in SMALL_BOXES else []
            for value in spoilt(pile):
                if box in SMALL_BOXES:
                    self.assertIs(is_pile(box, value), repr(value) in told)
        for value in wrongs.ANY + wrongs.PILES:
            self.assertIs(is_pile((2, 3, 2), value), False)

    def test_cubes_there_and_back(self):
        chance = random.Random(5)
        for box, pile in MANY_PILES:
            told = cubes_of(box, pile)
            self.assertEqual(told, sorted(cubes(pile)))
            mixed = list(told)
            chance.shuffle(mixed)
            for some in (told, tuple(told), mixed, tuple(mixed), told[::-1]):
                kept = list(some)
                self.assertEqual(pile_with(box, some), pile)
                self.assertEqual(list(some), kept)

    def test_turned_tipped_and_filled(self):
        for box, pile in MANY_PILES:
            for word, does in zip(WORDS, (pile_turned, pile_tipped, pile_filled)):
                other, lot = done(box, pile, word)
                self.assertEqual(does(box, pile), pile_by(other, lot))
                self.assertIs(is_pile(other, does(box, pile)), True)
                self.assertIs(is_like_pile(box, pile, word), is_like(box, pile, word))

    def test_back_again(self):
        for box, pile in MANY_PILES:
            a, b, c = box
            self.assertEqual(pile_filled(box, pile_filled(box, pile)), pile)
            self.assertEqual(pile_tipped((b, a, c), pile_tipped(box, pile)), pile)
            once = pile_turned(box, pile)
            self.assertEqual(pile_turned((c, a, b), pile_turned((b, c, a), once)), pile)
            self.assertEqual(pile_filled((b, c, a), once), pile_turned(box, pile_filled(box, pile)))

    def test_some_are_like_themselves(self):
        for word in WORDS:
            told = [is_like_pile(box, pile, word) for box, pile in EVERY_PILE]
            self.assertTrue(5 < sum(told) < len(told) - 5, word)

    def test_spots(self):
        for box, pile in MANY_PILES:
            spots = [(i, j) for i in range(box[0]) for j in range(box[1])]
            for told, by, does in ((spots_on(box, pile), 1, cube_on), (spots_off(box, pile), -1, cube_off)):
                can = []
                for i, j in spots:
                    rows = [list(row) for row in pile]
                    rows[i][j] += by
                    changed = tuple(map(tuple, rows))
                    if is_pile(box, changed):
                        can.append((i, j))
                        self.assertEqual(does(box, pile, (i, j)), changed)
                self.assertEqual(told, can)

    def test_least_turns(self):
        for box, pile in MANY_PILES:
            others = plain_piles(box) if box in SMALL_BOXES else [random_pile(box, 1), random_pile(box, 2), pile]
            for other in others:
                self.assertEqual(least_turns(box, pile, other), len(cubes(pile) ^ cubes(other)))

    def test_least_turns_are_as_few_as_can_be(self):
        for box in ((2, 3, 2), (3, 3, 1)):
            start = plain_piles(box)[9]
            steps, newest, many = {start: 0}, [start], 0
            while newest:
                many += 1
                come = {cube_on(box, pile, spot) for pile in newest for spot in spots_on(box, pile)}
                come |= {cube_off(box, pile, spot) for pile in newest for spot in spots_off(box, pile)}
                newest = [pile for pile in come if pile not in steps]
                steps.update(dict.fromkeys(newest, many))
            self.assertEqual(steps, {pile: least_turns(box, start, pile) for pile in plain_piles(box)})


class Roads(unittest.TestCase):
    def test_there_and_back(self):
        for box, pile in MANY_PILES:
            roads = roads_of(box, pile)
            self.assertEqual(roads, plain_roads_of(box, pile))
            self.assertIs(are_roads(box, roads), True)
            self.assertEqual(pile_by_roads(box, roads), pile)

    def test_all_strings(self):
        for box in ((1, 1, 1), (1, 2, 2), (2, 2, 1), (2, 1, 2), (2, 2, 2)):
            told = {plain_roads_of(box, pile) for pile in plain_piles(box)}
            strings = ["".join(some) for many in range(5) for some in itertools.product("rd", repeat=many)]
            for value in itertools.product(strings, repeat=box[0]):
                self.assertIs(are_roads(box, value), value in told)

    def test_spoilt_roads(self):
        for box, pile in EVERY_PILE[::9]:
            told = [repr(plain_roads_of(box, some)) for some in plain_piles(box)]
            roads = roads_of(box, pile)
            others = [
                roads[:at] + (road[:to] + sign + road[to + by:],) + roads[at + 1:]
                for at, road in enumerate(roads) for to in range(len(road) + 1) for sign in ("r", "d", "R", " ", "", "\n")
                for by in (0, 1)
            ]
            for value in spoilt(roads) + others:
                self.assertIs(are_roads(box, value), repr(value) in told)
        for value in wrongs.ANY + wrongs.PILE_ROADS:
            self.assertIs(are_roads((2, 3, 2), value), False)

    def test_points(self):
        for box, pile in MANY_PILES:
            a, b, c = box
            for row, road in enumerate(plain_roads_of(box, pile)):
                points = road_points(box, pile, row)
                self.assertEqual(points, walked((a - 1 - row, a - 1 - row + c), road))
                self.assertEqual(points[-1], (a - 1 - row + b, a - 1 - row))

    def test_roads_of_piles_do_not_meet(self):
        for box, pile in MANY_PILES:
            points = [set(road_points(box, pile, row)) for row in range(box[0])]
            self.assertFalse(any(one & other for one, other in itertools.combinations(points, 2)))

    def test_road_tables(self):
        for box in SMALL_BOXES:
            a, b, c = box
            table = tuple(
                tuple(plain_apart([(a - 1 - i, a - 1 - i + c)], [(a - 1 - j + b, a - 1 - j)]) for j in range(a)) for i in range(a)
            )
            self.assertEqual(road_table(box), table)
            self.assertEqual(determinant([list(row) for row in table]), len(plain_piles(box)))
        for box in ((12, 12, 12), (12, 1, 7), (9, 5, 11)):
            self.assertEqual(determinant([list(row) for row in road_table(box)]), plain_count(box))

    def chains(self, many, high):
        lines = list(itertools.combinations(range(high + 1), many))
        return [tuple(zip(xs, ys)) for xs in lines for ys in lines]

    def test_count_apart(self):
        for one in self.chains(1, 3):
            for other in self.chains(1, 3):
                self.assertEqual(count_apart(one, other), plain_apart(one, other))
        for one in self.chains(2, 3):
            for other in self.chains(2, 3):
                self.assertEqual(count_apart(one, other), plain_apart(one, other))
        for one in self.chains(3, 3):
            for other in self.chains(3, 3):
                self.assertEqual(count_apart(one, other), plain_apart(one, other))

    def test_more_roads_apart(self):
        chance, above = random.Random(11), 0
        for many in (2, 3):
            for _ in range(60):
                xs, ys = ([sorted(chance.sample(range(5), many)) for _ in range(2)] for _ in range(2))
                one, other = tuple(zip(xs[0], [y + 1 for y in ys[0]])), tuple(zip([x + 2 for x in xs[1]], ys[1]))
                told = plain_apart(one, other)
                self.assertEqual(count_apart(one, other), told)
                above += told > 1
        self.assertGreater(above, 20)

    def test_great_roads_apart(self):
        for box in ((10, 12, 12), (10, 5, 3), (7, 12, 11)):
            a, b, c = box
            starts = tuple((at, at + c) for at in range(a))
            ends = tuple((at + b, at) for at in range(a))
            self.assertEqual(count_apart(starts, ends), plain_count(box))
        self.assertEqual(count_apart(((0, 40),), ((40, 0),)), 107507208733336176461620)
        straight = tuple((4 * at, 4 * at + 2) for at in range(10))
        self.assertEqual(count_apart(straight, straight), 1)


class Floors(unittest.TestCase):
    def test_tiles_there_and_back(self):
        for box, pile in MANY_PILES:
            tiles = tiles_of(box, pile)
            self.assertEqual(tiles, plain_tiles(box, pile))
            self.assertIs(is_laying(box, tiles), True)
            self.assertEqual(pile_by_tiles(box, tiles), pile)

    def test_in_other_boxes(self):
        for box, pile in EVERY_PILE[::5]:
            for other in SMALL_BOXES:
                told = other == box or tiles_of(box, pile) in [plain_tiles(other, some) for some in plain_piles(other)]
                self.assertIs(is_laying(other, tiles_of(box, pile)), told)

    def test_spoilt_tiles(self):
        for box, pile in EVERY_PILE[::9] + [((5, 4, 3), random_pile((5, 4, 3), 1))]:
            told = [repr(plain_tiles(box, some)) for some in plain_piles(box)] if box in SMALL_BOXES else []
            tiles = tiles_of(box, pile)
            for value in spoilt(tiles):
                self.assertIs(is_laying(box, value), repr(value) in told)
        for value in wrongs.ANY + wrongs.TILES:
            self.assertIs(is_laying((2, 2, 2), value), False)

    def test_one_tile_moved(self):
        for box, pile in EVERY_PILE[::3]:
            told = [plain_tiles(box, some) for some in plain_piles(box)]
            tiles = tiles_of(box, pile)
            for at, (sort, u, v) in enumerate(tiles):
                for tile in ((sort, u + 1, v), (sort, u - 1, v - 1), (sort, u, v + 1), ((sort + 1) % 3, u, v), (3, u, v), (-1, u, v)):
                    value = tuple(sorted(tiles[:at] + (tile,) + tiles[at + 1:]))
                    self.assertIs(is_laying(box, value), value in told)
                    self.assertIs(is_laying(box, tiles[:at] + (tile,) + tiles[at + 1:]), False)

    def test_points(self):
        for box, pile in MANY_PILES:
            tiles = set(plain_tiles(box, pile))
            near = [(u, v) for u in range(-box[2] - 1, box[0] + 2) for v in range(-box[2] - 1, box[1] + 2)]
            for points, around in ((points_up(box, pile), UPS), (points_down(box, pile), DOWNS)):
                told = [(u, v) for u, v in near if all((s, u + i, v + j) in tiles for s, i, j in around)]
                self.assertEqual(points, told)

    def test_points_are_spots(self):
        for box, pile in MANY_PILES:
            self.assertEqual(len(points_up(box, pile)), len(spots_on(box, pile)))
            self.assertEqual(len(points_down(box, pile)), len(spots_off(box, pile)))

    def test_turned_tiles(self):
        for box, pile in MANY_PILES:
            ups = [tiles_turned(box, pile, point) for point in points_up(box, pile)]
            downs = [tiles_turned(box, pile, point) for point in points_down(box, pile)]
            self.assertEqual(sorted(ups), sorted(plain_tiles(box, cube_on(box, pile, spot)) for spot in spots_on(box, pile)))
            self.assertEqual(sorted(downs), sorted(plain_tiles(box, cube_off(box, pile, spot)) for spot in spots_off(box, pile)))

    def test_turning_back(self):
        for box, pile in EVERY_PILE:
            for point in points_up(box, pile):
                turned = pile_by_tiles(box, tiles_turned(box, pile, point))
                self.assertIn(point, points_down(box, turned))
                self.assertEqual(tiles_turned(box, turned, point), tiles_of(box, pile))


class Counts(unittest.TestCase):
    def test_lists(self):
        for box in SMALL_BOXES:
            if box[0] * box[1] * box[2] <= 18:
                told = piles(box)
                self.assertEqual(told, plain_piles(box))
                sums = [len(cubes(pile)) for pile in told]
                self.assertEqual(count_by_cubes(box), tuple(sums.count(many) for many in range(box[0] * box[1] * box[2] + 1)))
        self.assertEqual(len(piles((1, 6, 3))), count_piles((1, 6, 3)))

    def test_how_many(self):
        for box in SMALL_BOXES:
            self.assertEqual(count_piles(box), len(plain_piles(box)))
            self.assertEqual(count_piles(box), plain_count(box))
        for box in ((12, 12, 12), (1, 40, 2), (40, 1, 1), (5, 17, 9), (7, 3, 20)):
            for wide in itertools.permutations(box):
                self.assertEqual(count_piles(wide), plain_count(box))
        self.assertEqual(count_piles((40, 40, 40)), plain_count((40, 40, 40)))

    def test_how_many_are_like_themselves(self):
        for box in SMALL_BOXES:
            for word in WORDS:
                told = sum(is_like(box, pile, word) for pile in plain_piles(box))
                self.assertEqual(count_like_piles(box, word), told, (box, word))

    def test_known_counts(self):
        self.assertEqual([count_like_piles((n, n, n), "turned") for n in range(1, 8)], [2, 5, 20, 132, 1452, 26741, 826540])
        self.assertEqual([count_like_piles((n, n, n), "tipped") for n in range(1, 7)], [2, 10, 112, 2772, 151008, 18076916])
        self.assertEqual([count_like_piles((n, n, n), "filled") for n in range(1, 7)], [0, 4, 0, 400, 0, 960400])

    def test_listed_in_greater_boxes(self):
        for box in ((3, 3, 3), (4, 2, 3), (2, 4, 3), (3, 2, 4), (4, 4, 1), (1, 5, 4), (5, 2, 2)):
            for word in WORDS:
                told = sum(is_like(box, pile, word) for pile in plain_piles(box))
                self.assertEqual(count_like_piles(box, word), told, (box, word))

    def test_by_cells_of_the_box(self):
        """The product over lots of cells that turning, or tipping, leads to one another, each told by one cell."""
        for side in (8, 13, 40):
            cells = itertools.product(range(side), repeat=3)
            top = below = 1
            for i, j, k in cells:
                if (i, j, k) == min((i, j, k), (j, k, i), (k, i, j)):
                    top, below = top * (i + j + k + 2), below * (i + j + k + 1)
            self.assertEqual(count_like_piles((side, side, side), "turned"), top // below)
        for side, high in ((8, 3), (3, 8), (40, 40), (40, 1), (1, 40)):
            top = below = 1
            for i, j, k in itertools.product(range(side), range(side), range(high)):
                if i <= j:
                    top, below = top * (i + j + k + 2), below * (i + j + k + 1)
            self.assertEqual(count_like_piles((side, side, high), "tipped"), top // below)


class Full(unittest.TestCase):
    def test_lists(self):
        self.assertEqual(full_piles(1), [pile for pile in plain_piles((2, 2, 2)) if all(is_like((2, 2, 2), pile, word) for word in WORDS)])
        for half in (1, 2, 3, 4):
            told = full_piles(half)
            self.assertEqual(told, sorted(set(told)))
            self.assertEqual(len(told), count_squares(half))
            for pile in told:
                self.assertTrue(all(is_like((2 * half,) * 3, pile, word) for word in WORDS))
                self.assertIs(is_full(half, pile), True)

    def test_corners_there_and_back(self):
        for half in (1, 2, 3, 4):
            for pile in full_piles(half):
                corner = corner_of(half, pile)
                self.assertEqual(corner, tuple(row[half:] for row in pile[half:]))
                self.assertEqual(full_by_corner(half, corner), pile)

    def corners(self, half):
        """Corners of greater halves: falling from a number at the first spot, or all 0."""
        for most in range(half):
            yield tuple(tuple(max(0, most - max(i, j)) for j in range(half)) for i in range(half))
            yield tuple(tuple(most if i == j == 0 else 0 for j in range(half)) for i in range(half))

    def test_great_halves(self):
        for half in (5, 6):
            for corner in self.corners(half):
                pile = full_by_corner(half, corner)
                self.assertTrue(all(is_like((2 * half,) * 3, pile, word) for word in WORDS))
                self.assertEqual(corner_of(half, pile), corner)
                self.assertIs(is_full(half, pile), True)

    def test_which_corners_there_are(self):
        for half in (1, 2, 3):
            told = [corner_of(half, pile) for pile in full_piles(half)]
            flat = itertools.product(range(half + 1), repeat=half * half)
            for some in itertools.islice(flat, 0, None, 1 if half < 3 else 13):
                corner = tuple(some[half * i:half * (i + 1)] for i in range(half))
                if corner in told:
                    self.assertEqual(corner_of(half, full_by_corner(half, corner)), corner)
                else:
                    with self.assertRaises(ValueError):
                        full_by_corner(half, corner)

    def test_spoilt(self):
        for half in (1, 2, 3):
            told = [repr(pile) for pile in full_piles(half)]
            for pile in full_piles(half):
                for value in spoilt(pile):
                    self.assertIs(is_full(half, value), repr(value) in told)
        for half in (1, 2, 6):
            for value in wrongs.ANY:
                self.assertIs(is_full(half, value), False)
        for value in wrongs.FULL_PILES:
            self.assertIs(is_full(2, value), False)

    def test_likeness_by_two_words_is_too_little(self):
        for pile in plain_piles((2, 2, 2)):
            self.assertIs(is_full(1, pile), pile == ((2, 1), (1, 0)))
        for pile in wrongs.HALF_FULL:
            told = [word for word in WORDS if is_like((4, 4, 4), pile, word)]
            self.assertEqual(len(told), 2)
            self.assertIs(is_full(2, pile), False)

    def test_counts(self):
        self.assertEqual([count_full(number) for number in range(1, 61)], [count_squares(number) for number in range(1, 61)])


if __name__ == "__main__":
    unittest.main()
