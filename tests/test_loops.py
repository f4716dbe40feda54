"""Full loops, their turns, and ties on a ring, held against plain reckonings."""

import unittest

from signsquared.fullloops import full_loops, loop_rings, square_by_loops, ties_of, way_from
from signsquared.heights import hills, hollows, lowered, raised
from signsquared.loopturns import colour_turned, face_turned, led_round, round_size, turnable_faces
from signsquared.ringties import all_ties, count_ties, is_ties, ties_by_pairs, ties_mirrored, ties_pairs, ties_turned
from signsquared.squarelists import squares
from signsquared.squares import last_square, unit_square
from tests.plainly import (
    ALL_SMALL, SMALL, faces, links_of_spot, loops_with_colour, loops_with_face, out_links, plain_loops, plain_rings,
    plain_ties, plain_ways, random_squares,
)

MANY = ALL_SMALL + [square for sides in (5, 6, 9, 12) for square in random_squares(sides, 4)]


class Loops(unittest.TestCase):
    def test_full_loops(self):
        for square in MANY:
            self.assertEqual(full_loops(square), plain_loops(square))

    def test_two_links_at_each_spot_and_each_second_end(self):
        for square in MANY:
            sides, held = len(square), full_loops(square)
            for row in range(sides):
                for column in range(sides):
                    self.assertEqual(len([link for link in links_of_spot(row, column) if link in held]), 2)
            self.assertEqual([link in held for link in out_links(sides)], [True, False] * (2 * sides))

    def test_as_many_as_squares(self):
        for sides in SMALL:
            told = {full_loops(square) for square in SMALL[sides]}
            self.assertEqual(len(told), len(SMALL[sides]))
            self.assertEqual(sorted(square_by_loops(sides, links) for links in told), SMALL[sides])

    def test_ways_and_ties(self):
        for square in MANY:
            told = plain_ways(square)
            self.assertEqual(ties_of(square), tuple(other for _, other in told))
            self.assertEqual([way_from(square, end) for end in range(2 * len(square))], [way for way, _ in told])

    def test_ties_are_ties(self):
        for square in MANY:
            ties = ties_of(square)
            self.assertTrue(is_ties(ties))
            for end, other in enumerate(ties):
                self.assertEqual(way_from(square, end), way_from(square, other)[::-1])

    def test_rings(self):
        for square in MANY:
            self.assertEqual(loop_rings(square), plain_rings(square))

    def test_there_are_rings(self):
        many = [len(loop_rings(square)) for square in squares(5)]
        self.assertGreater(max(many), 0)
        self.assertGreater(max(len(loop_rings(square)) for square in MANY if len(square) == 12), 0)

    def test_each_spot_is_on_ways_or_rings(self):
        for square in MANY:
            sides, ties = range(len(square)), ties_of(square)
            spots = [spot for end, other in enumerate(ties) if end < other for spot in way_from(square, end)]
            spots += [spot for ring in loop_rings(square) for spot in ring]
            self.assertEqual(sorted(spots), [(row, column) for row in sides for column in sides])


class Turns(unittest.TestCase):
    def test_turnable_faces(self):
        for square in MANY:
            links = plain_loops(square)
            told = [face for face in faces(len(square)) if loops_with_face(links, face)]
            self.assertEqual(turnable_faces(square), told)
            points = sorted(hollows(square) + hills(square))
            self.assertEqual([(row + 1, column + 1) for row, column in told], points)

    def test_turned_faces(self):
        for square in MANY:
            for face in turnable_faces(square):
                turned, point = face_turned(square, face), (face[0] + 1, face[1] + 1)
                self.assertEqual(full_loops(turned), loops_with_face(plain_loops(square), face))
                self.assertEqual(turned, (raised if point in hollows(square) else lowered)(square, point))
                self.assertEqual(face_turned(turned, face), square)

    def test_turned_colours(self):
        for square in MANY:
            for colour in (0, 1):
                turned = colour_turned(square, colour)
                self.assertEqual(full_loops(turned), loops_with_colour(plain_loops(square), len(square), colour))
                self.assertEqual(colour_turned(turned, colour), square)

    def test_leading_round(self):
        for square in MANY:
            links = plain_loops(square)
            for colour in (0, 1):
                links = loops_with_colour(links, len(square), colour)
            self.assertEqual(full_loops(led_round(square, 1)), links)
            self.assertEqual(led_round(square, 0), square)
            self.assertEqual(led_round(led_round(square, 1), 1), led_round(square, 2))
            self.assertEqual(led_round(led_round(square, 2), 1), led_round(square, 3))

    def test_leading_there_and_back(self):
        for square in MANY:
            for times in (1, 2, 7):
                self.assertEqual(led_round(led_round(square, times), -times), square)
                self.assertEqual(led_round(led_round(square, -times), times), square)
        for square in [unit_square(12), last_square(12), ((1,),)] + random_squares(12, 1):
            self.assertEqual(led_round(led_round(square, 1000), -1000), square)
            self.assertEqual(led_round(led_round(square, -1000), 1000), square)

    def test_leading_often_is_leading_again_and_again(self):
        for square in random_squares(5, 3) + random_squares(8, 2):
            size = 1000
            told = square
            for _ in range(size):
                told = led_round(told, 1)
            self.assertEqual(led_round(square, size), told)

    def test_leading_round_turns_ties_back(self):
        for square in MANY:
            for times in (1, 2, -1, 5, -1000, 1000):
                self.assertEqual(ties_of(led_round(square, times)), ties_turned(ties_of(square), -times))

    def test_as_many_squares_for_turned_ties(self):
        told = [ties_of(square) for square in squares(4)]
        for ties in all_ties(4):
            for steps in range(8):
                self.assertEqual(told.count(ties), told.count(ties_turned(ties, steps)))

    def test_round_size(self):
        for square in ALL_SMALL + squares(5)[::9]:
            size, some = round_size(square), led_round(square, 1)
            self.assertEqual(led_round(square, size), square)
            for _ in range(size - 1):
                self.assertNotEqual(some, square)
                some = led_round(some, 1)


class Ties(unittest.TestCase):
    def test_all_ties(self):
        for pairs in (1, 2, 3, 4):
            self.assertEqual(all_ties(pairs), plain_ties(pairs))
        for pairs in (5, 6):
            told = all_ties(pairs)
            self.assertEqual(told, sorted(set(told)))
            self.assertTrue(all(is_ties(ties) for ties in told))
            self.assertEqual(len(told), count_ties(pairs))

    def test_counts(self):
        known = [1, 2, 5, 14, 42, 132, 429, 1430, 4862, 16796, 58786, 208012]
        self.assertEqual([count_ties(pairs) for pairs in range(1, 13)], known)
        told = [1]
        for pairs in range(1, 61):
            told.append(sum(told[inner] * told[pairs - 1 - inner] for inner in range(pairs)))
            self.assertEqual(count_ties(pairs), told[pairs])

    def test_pairs_there_and_back(self):
        great = [tuple(range(23, -1, -1)), tuple(place ^ 1 for place in range(24))]
        for ties in [ties for pairs in range(1, 7) for ties in all_ties(pairs)] + great:
            pairs = ties_pairs(ties)
            self.assertEqual(pairs, tuple(sorted({tuple(sorted(two)) for two in enumerate(ties)})))
            self.assertEqual(ties_by_pairs(pairs), ties)

    def test_turned(self):
        for pairs in (1, 2, 3, 4):
            places = 2 * pairs
            for ties in all_ties(pairs):
                for steps in (0, 1, -1, 3, 8, 1000, -1000):
                    turned = ties_turned(ties, steps)
                    for place in range(places):
                        self.assertEqual(turned[(place + steps) % places], (ties[place] + steps) % places)
                    self.assertEqual(ties_turned(turned, -steps), ties)

    def test_mirrored(self):
        for pairs in (1, 2, 3, 4):
            last = 2 * pairs - 1
            for ties in all_ties(pairs):
                mirrored = ties_mirrored(ties)
                for place in range(2 * pairs):
                    self.assertEqual(mirrored[last - place], last - ties[place])
                self.assertEqual(ties_mirrored(mirrored), ties)

    def test_twelve_pairs(self):
        ties = ties_of(random_squares(12, 1)[0])
        self.assertEqual(len(ties), 24)
        self.assertEqual(ties_turned(ties, 24), ties)
        self.assertEqual(ties_mirrored(ties_mirrored(ties)), ties)


if __name__ == "__main__":
    unittest.main()
