"""Facts, what is sure of them, few cells and cell papers, held against lists of all squares."""

import itertools
import random
import unittest

from signsquared.errors import InvalidNumber, TooMany
from signsquared.factlists import are_facts, count_told, first_told, goes_with, last_told, squares_told, told_with
from signsquared.fewcells import cell_paper, cell_questions, fewest_cells, fewest_points, is_cell_paper, next_cell
from signsquared.squarelists import count_squares, list_squares
from signsquared.sures import clash_in, greatest_told, height_bounds, least_told, sure_cells
from tests import wrongsteps
from tests.plainfacts import (
    LISTED, RANGES, every_fact, is_paper, is_so, paper_length, plain_are_facts, plain_told, shortest_paper, some_facts, true_facts,
)
from tests.plainly import L, P, SMALL, U, X, plain_below, plain_heights, random_squares
from tests.wrongs import ANY, spoilt

NO_FACTS = ()


def cells(sides):
    return list(itertools.product(range(sides), repeat=2))


def lots_of_facts(*sides):
    return [(some, facts) for some in sides for facts in some_facts(some)]


class AreFacts(unittest.TestCase):
    def test_right_ones(self):
        for sides in (1, 2, 3):
            for fact in every_fact(sides):
                self.assertIs(are_facts(sides, (fact,)), True)
        for sides in (4, 12):
            for facts in some_facts(sides):
                self.assertIs(are_facts(sides, facts), True)
        self.assertIs(are_facts(12, (("corner", 12, 12, 12), ("least", 12, 0, -40), ("most", 0, 12, 40))), True)
        self.assertIs(are_facts(3, wrongsteps.MIXED_FACTS), True)

    def test_wrong_ones(self):
        for value in wrongsteps.FACTS:
            with self.subTest(value=repr(value)[:80]):
                self.assertIs(are_facts(3, value), False)

    def test_facts_of_other_sides(self):
        facts = [(fact,) for fact in every_fact(4)] + [wrongsteps.MIXED_FACTS]
        for sides in (1, 2, 3, 4, 5, 12):
            for value in facts + ANY:
                self.assertIs(are_facts(sides, value), plain_are_facts(sides, value))

    def test_spoilt_ones(self):
        for sides in (1, 2, 3, 4):
            for fact in wrongsteps.MIXED_FACTS:
                for value in spoilt((fact,)) + spoilt((fact, wrongsteps.T[0])):
                    self.assertIs(are_facts(sides, value), plain_are_facts(sides, value), (sides, value))

    def test_the_bounds_of_each_number(self):
        for sides in (1, 3, 12):
            for word, (low, high) in RANGES.items():
                numbers = (low - 1, low, high, high + 1)
                for fact in itertools.product([word], (-1, 0, sides - 1, sides, sides + 1), (-1, 0, sides - 1, sides, sides + 1), numbers):
                    self.assertIs(are_facts(sides, (fact,)), plain_are_facts(sides, (fact,)), (sides, fact))

    def test_how_many(self):
        for many in (0, 1, 39, 40, 41, 42, 500):
            self.assertIs(are_facts(2, (("cell", 0, 0, 1),) * many), many <= 40)


class GoesWith(unittest.TestCase):
    def test_each_fact(self):
        for sides in (1, 2, 3):
            for fact in every_fact(sides):
                for square in SMALL[sides]:
                    self.assertIs(goes_with(square, (fact,)), is_so(square, fact), (square, fact))

    def test_many_facts(self):
        for sides in (4, 8, 12):
            chance = random.Random(sides)
            for square in random_squares(sides, 12):
                facts = true_facts(chance, square, 7)
                self.assertIs(goes_with(square, facts), True)
                self.assertIs(goes_with(square, facts * 5), True)
                for fact in chance.sample(every_fact(sides), 20):
                    self.assertIs(goes_with(square, facts + (fact,)), is_so(square, fact))
                    self.assertIs(goes_with(square, (fact,) + facts), is_so(square, fact))

    def test_rim(self):
        for square in SMALL[3]:
            for at in range(4):
                for fact, so in (
                    (("along", min(at, 2), 0, 0), True), (("along", min(at, 2), 0, 1), False), (("along", min(at, 2), 3, 1), True),
                    (("down", 0, min(at, 2), 0), True), (("down", 0, min(at, 2), 1), False), (("down", 3, min(at, 2), 0), False),
                    (("corner", at, 0, 0), True), (("corner", 0, at, 1), False), (("corner", at, 3, at), True),
                    (("least", 0, at, at), True), (("least", 0, at, at + 1), False), (("most", at, 3, 3 - at), True),
                    (("most", 3, at, 2 - at), False), (("least", at, at, -40), True), (("most", at, at, 40), True),
                    (("least", at, at, 40), False), (("most", at, at, -40), False), (("corner", at, at, 12), False),
                ):
                    self.assertIs(goes_with(square, (fact,)), so)
                    self.assertIs(goes_with(square, (fact,)), is_so(square, fact))


class Lists(unittest.TestCase):
    def test_lists(self):
        for sides, facts in lots_of_facts(1, 2, 3, 4, 5):
            told = plain_told(sides, facts)
            self.assertEqual(squares_told(sides, facts), told)
            self.assertEqual(count_told(sides, facts), len(told))

    def test_each_fact(self):
        for sides in (1, 2, 3):
            for fact in every_fact(sides):
                self.assertEqual(squares_told(sides, (fact,)), plain_told(sides, (fact,)))

    def test_first_and_last_and_those_between(self):
        for sides, facts in lots_of_facts(1, 2, 3, 4, 5, 6):
            told = plain_told(sides, facts)
            self.assertEqual(count_told(sides, facts), len(told))
            self.assertEqual(first_told(sides, facts), told[0] if told else None)
            self.assertEqual(last_told(sides, facts), told[-1] if told else None)
            for at in range(0, len(told), 1 + len(told) // 20):
                self.assertEqual(told_with(sides, facts, at), told[at])
            for at in (len(told), len(told) + 1, 10 ** 119):
                with self.assertRaises(InvalidNumber):
                    told_with(sides, facts, at)

    def test_no_facts(self):
        for sides in range(1, 9):
            self.assertEqual(count_told(sides, NO_FACTS), count_squares(sides))
        self.assertEqual(squares_told(5, NO_FACTS), LISTED[5])
        self.assertEqual([told_with(4, NO_FACTS, at) for at in range(42)], SMALL[4])

    def test_the_same_fact_again_and_again(self):
        for fact in (("cell", 1, 1, -1), ("least", 2, 2, 2), ("along", 0, 2, 1), ("down", 2, 1, 1), ("corner", 2, 2, 1)):
            for sides in (3, 4, 5):
                self.assertEqual(squares_told(sides, (fact,) * 40), squares_told(sides, (fact,)))

    def test_facts_that_clash(self):
        for facts in (
            (("cell", 0, 0, -1),), (("cell", 0, 0, 1), ("cell", 0, 0, 0)), (("corner", 1, 1, 2),), (("least", 2, 2, 3), ("most", 2, 2, 2)),
            (("corner", 0, 0, 1),), (("along", 0, 0, 1),), (("down", 0, 2, 1),), (("least", 0, 0, 1),), (("most", 4, 0, 3),),
        ):
            for sides in (4, 5):
                self.assertEqual(count_told(sides, facts), 0)
                self.assertIsNone(first_told(sides, facts))
                self.assertIsNone(last_told(sides, facts))
                self.assertEqual(squares_told(sides, facts), [])
                with self.assertRaises(InvalidNumber):
                    told_with(sides, facts, 0)
            self.assertEqual(count_told(8, facts), 0)

    def test_many_sides(self):
        """Of 7 and 8 sides: what is told is in ascending order and goes with the facts, and a cell's numbers come to all."""
        for sides in (7, 8):
            chance = random.Random(sides)
            for square in random_squares(sides, 3):
                facts = true_facts(chance, square, 4)
                many = count_told(sides, facts)
                some = sorted({0, many - 1, *[chance.randrange(many) for _ in range(6)]})
                told = [told_with(sides, facts, at) for at in some]
                self.assertEqual(told, sorted(set(told)))
                self.assertEqual((told[0], told[-1]), (first_told(sides, facts), last_told(sides, facts)))
                for one in told:
                    self.assertTrue(all(is_so(one, fact) for fact in facts))
                for row, column in random.Random(1).sample(cells(sides), 4):
                    parts = [count_told(sides, facts + (("cell", row, column, sign),)) for sign in (-1, 0, 1)]
                    self.assertEqual(sum(parts), many)
                    below = count_told(sides, facts + (("most", row, column, row + column - 3),))
                    self.assertEqual(below + count_told(sides, facts + (("least", row, column, row + column - 2),)), many)
                known = tuple(("cell", row, column, square[row][column]) for row, column in cells(sides)[:40])
                self.assertIn(count_told(sides, known), range(1, 200))
                self.assertTrue(goes_with(square, known))

    def test_numbers_that_go_with_a_cell_come_to_all(self):
        for sides, facts in lots_of_facts(3, 4):
            for row, column in cells(sides):
                parts = [count_told(sides, facts + (("cell", row, column, sign),)) for sign in (-1, 0, 1)]
                self.assertEqual(sum(parts), count_told(sides, facts))


class Sures(unittest.TestCase):
    def test_cells(self):
        for sides, facts in lots_of_facts(1, 2, 3, 4, 5, 6):
            told = plain_told(sides, facts)
            if not told:
                self.assertIsNone(sure_cells(sides, facts))
                continue
            signs = {(i, j): {square[i][j] for square in told} for i, j in cells(sides)}
            self.assertEqual(sure_cells(sides, facts), tuple(
                tuple(min(signs[i, j]) if len(signs[i, j]) == 1 else None for j in range(sides)) for i in range(sides)
            ))

    def test_heights(self):
        for sides, facts in lots_of_facts(1, 2, 3, 4, 5) + lots_of_facts(6)[3:9]:
            tables = [plain_heights(square) for square in plain_told(sides, facts)]
            if not tables:
                self.assertIsNone(height_bounds(sides, facts))
                continue
            points = range(sides + 1)
            self.assertEqual(height_bounds(sides, facts), tuple(
                tuple(tuple(pick(table[i][j] for table in tables) for j in points) for i in points) for pick in (min, max)
            ))

    def test_least_and_greatest(self):
        for sides, facts in lots_of_facts(1, 2, 3, 4):
            told = plain_told(sides, facts)
            low = [some for some in told if all(plain_below(some, other) for other in told)]
            high = [some for some in told if all(plain_below(other, some) for other in told)]
            self.assertEqual(least_told(sides, facts), low[0] if low else None)
            self.assertEqual(greatest_told(sides, facts), high[0] if high else None)

    def test_facts_that_have_a_least_and_a_greatest_one(self):
        chance = random.Random(9)
        for sides in (3, 4, 5, 6, 7):
            for square in random_squares(sides, 8):
                facts = tuple(fact for fact in true_facts(chance, square, 12) if fact[0] in ("corner", "least", "most"))
                low, high = least_told(sides, facts), greatest_told(sides, facts)
                self.assertTrue(plain_below(low, square) and plain_below(square, high))
                for some in (low, high):
                    self.assertTrue(all(is_so(some, fact) for fact in facts))
                self.assertEqual(height_bounds(sides, facts), (plain_heights(low), plain_heights(high)))

    def test_meets_and_joins_go_with_heights(self):
        from signsquared.below import join, meet
        chance = random.Random(2)
        for sides in (3, 4):
            for square in SMALL[sides]:
                facts = tuple(fact for fact in true_facts(chance, square, 9) if fact[0] in ("corner", "least", "most"))
                told = plain_told(sides, facts)
                for one, other in itertools.product(told[::2], told[::3]):
                    self.assertTrue(goes_with(meet(one, other), facts) and goes_with(join(one, other), facts))

    def test_seven_sides(self):
        for square in random_squares(7, 3):
            facts = tuple(("cell", i, j, square[i][j]) for i, j in cells(7))[:40]
            told = [first_told(7, facts), last_told(7, facts)]
            sure = sure_cells(7, facts)
            self.assertEqual([row[:7] for row in sure[:5]], list(square[:5]))
            low, high = height_bounds(7, facts)
            for some in told:
                table = plain_heights(some)
                for i, j in itertools.product(range(8), repeat=2):
                    self.assertTrue(low[i][j] <= table[i][j] <= high[i][j])
                    if i < 7 and j < 7 and sure[i][j] is not None:
                        self.assertEqual(some[i][j], sure[i][j])
        self.assertEqual(sure_cells(7, NO_FACTS), ((None,) * 7,) * 7)

    def plain_clash(self, sides, facts):
        for size in range(1, len(facts) + 1):
            for some in itertools.combinations(range(len(facts)), size):
                if not plain_told(sides, [facts[at] for at in some]):
                    return some
        return None

    def test_clashes(self):
        found = {}
        for seed in (1, 2, 3):
            for sides in (1, 2, 3, 4):
                for facts in some_facts(sides, 40, seed):
                    told = self.plain_clash(sides, facts[:8])
                    found[told and len(told)] = True
                    self.assertEqual(clash_in(sides, facts[:8]), told)
        self.assertTrue({None, 1, 2} <= set(found), found)

    def test_clashes_of_many_facts(self):
        lots = [
            tuple(("cell", 0, column, 0) for column in range(7)), tuple(("cell", row, 3, 0) for row in range(7)) + (("cell", 0, 0, 1),),
            (("cell", 0, 0, 1),) + tuple(("cell", 2, column, 0) for column in range(7)),
            (("cell", 0, 0, 0),) + tuple(("cell", 2, column, 0) for column in range(7)),
            (("least", 3, 3, 4), ("cell", 1, 1, 0), ("most", 3, 2, 2), ("most", 3, 2, 2), ("corner", 3, 3, 1)),
            tuple(("cell", 0, column, 0) for column in range(5)) + (("along", 0, 5, 1), ("along", 0, 5, 0)),
        ]
        self.assertEqual([clash_in(7, facts) for facts in lots], [
            # A first row's one at the column 0 leaves 0 for the rest of this column.
            (0, 1, 2, 3, 4, 5, 6), (0, 1, 2, 3, 4, 5, 6), (0, 2, 3, 4, 5, 6, 7), (1, 2, 3, 4, 5, 6, 7), (0, 2), (5, 6),
        ])
        for facts in lots:
            self.assertEqual(count_told(7, facts), 0)

    def test_clashes_of_the_same_facts(self):
        bad, good = ("cell", 0, 0, -1), ("cell", 0, 1, 1)
        self.assertEqual(clash_in(3, (bad,) * 8), (0,))
        self.assertEqual(clash_in(3, (good,) * 7 + (bad,)), (7,))
        self.assertIsNone(clash_in(3, (good,) * 8))
        self.assertIsNone(clash_in(3, ()))
        other = ("cell", 0, 0, 1)
        self.assertEqual(clash_in(3, (good, good, other, other)), (0, 2))


class Few(unittest.TestCase):
    def plain_fewest(self, places, table, others):
        for size in range(len(places) + 1):
            for some in itertools.combinations(places, size):
                if all(any(table[i][j] != other[i][j] for i, j in some) for other in others):
                    return some

    def test_cells(self):
        for sides in (1, 2, 3, 4):
            for square in SMALL[sides]:
                others = [other for other in SMALL[sides] if other != square]
                self.assertEqual(fewest_cells(square), self.plain_fewest(cells(sides), square, others))

    def test_points(self):
        for sides in (1, 2, 3, 4):
            inner = list(itertools.product(range(1, sides), repeat=2))
            for square in SMALL[sides]:
                others = [plain_heights(other) for other in SMALL[sides] if other != square]
                self.assertEqual(fewest_points(square), self.plain_fewest(inner, plain_heights(square), others))

    def test_only_this_square_goes_with_them(self):
        for square in SMALL[3] + SMALL[4]:
            told = tuple(("cell", i, j, square[i][j]) for i, j in fewest_cells(square))
            self.assertEqual(squares_told(len(square), told), [square])
            table = plain_heights(square)
            told = [(word, i, j, table[i][j]) for i, j in fewest_points(square) for word in ("least", "most")]
            self.assertEqual(squares_told(len(square), tuple(told)), [square])


def few_facts():
    """Sides with facts with which at most 8 squares go."""
    found = [(sides, facts) for sides, facts in lots_of_facts(1, 2, 3, 4, 5) if len(plain_told(sides, facts)) <= 8]
    chance = random.Random(8)
    for sides in (6, 7, 8):
        for square in random_squares(sides, 12):
            known = tuple(("cell", i, j, square[i][j]) for i, j in chance.sample(cells(sides), min(40, sides * sides * 2 // 3)))
            if count_told(sides, known) <= 8:
                found.append((sides, known))
    return found


def all_told(sides, facts):
    return [told_with(sides, facts, at) for at in range(count_told(sides, facts))]


class Papers(unittest.TestCase):
    def test_shortest_papers(self):
        lengths = {}
        for sides, facts in few_facts():
            squares = all_told(sides, facts)
            length = shortest_paper(squares)
            lengths[length] = len(squares)
            self.assertEqual(cell_questions(sides, facts), length)
            paper = cell_paper(sides, facts)
            self.assertTrue(is_paper(squares, sides, paper))
            self.assertEqual(paper_length(paper), length)
            self.assertIs(is_cell_paper(sides, facts, paper), True)
        self.assertTrue({0, 1, 2, 3} <= set(lengths), lengths)

    def test_next_cells(self):
        for sides, facts in few_facts():
            squares, cell = all_told(sides, facts), next_cell(sides, facts)
            if len(squares) <= 1:
                self.assertIsNone(cell)
                continue
            parts = [[some for some in squares if some[cell[0]][cell[1]] == sign] for sign in (-1, 0, 1)]
            self.assertEqual(1 + max(map(shortest_paper, parts)), shortest_paper(squares))
            self.assertIn(cell, cells(sides))

    def test_eight_squares_and_nine(self):
        found = {}
        for sides in (4, 5, 6, 7, 8):
            chance = random.Random(sides)
            for square in random_squares(sides, 40):
                facts = true_facts(chance, square, sides * 3)
                many = count_told(sides, facts)
                found[many] = True
                for ask in (cell_questions, next_cell, cell_paper):
                    if many <= 8:
                        ask(sides, facts)
                    else:
                        with self.assertRaises(TooMany) as caught:
                            ask(sides, facts)
                        self.assertEqual(caught.exception.limit, 8)
        self.assertTrue({8, 9} <= set(found), sorted(found))

    def test_limits_of_sides(self):
        for sides in (9, 12):
            for ask in (cell_questions, next_cell, cell_paper):
                with self.assertRaises(TooMany) as caught:
                    ask(sides, (("cell", 0, 0, -1),))
                self.assertEqual(caught.exception.limit, 8)

    def test_facts_with_which_no_square_goes(self):
        none = (("cell", 0, 0, -1),)
        for sides in (1, 3, 8):
            self.assertEqual((cell_questions(sides, none), next_cell(sides, none), cell_paper(sides, none)), (0, None, ("none",)))
            self.assertIs(is_cell_paper(sides, none, ("none",)), True)
            self.assertIs(is_cell_paper(sides, none, ("told", X)), False)
            self.assertIs(is_cell_paper(sides, none, ("ask", 0, 0, ("none",), ("none",), ("none",))), True)
            self.assertIs(is_cell_paper(sides, none, ("ask", 0, 0, ("none",), ("none",), ("none", 0))), False)

    def test_any_values(self):
        for sides, facts in ((1, ()), (2, ()), (3, wrongsteps.T), (8, ()), (3, (("cell", 0, 0, -1),))):
            squares = LISTED[sides] if sides < 5 else []
            for value in ANY:
                told = is_paper([square for square in squares if all(is_so(square, fact) for fact in facts)], sides, value)
                self.assertIs(is_cell_paper(sides, facts, value), told)

    def test_papers_wrong_at_one_place(self):
        for sides, facts in few_facts()[::4]:
            squares = all_told(sides, facts)
            for value in spoilt(cell_paper(sides, facts)) if squares else []:
                self.assertIs(is_cell_paper(sides, facts, value), is_paper(squares, sides, value), repr(value)[:90])

    def test_other_papers(self):
        """Long papers, papers with the same cell again, leaves in the wrong places."""
        two = ((0, 1), (1, 0)), ((1, 0), (0, 1))
        right = ("ask", 0, 0, ("none",), ("told", two[0]), ("told", two[1]))
        again = ("ask", 0, 0, ("none",), right, right)
        for value in (
            right, again[:4] + (("ask", 0, 0, ("none",), ("told", two[0]), ("none",)), ("told", two[1])),
            ("ask", 0, 1, ("none",), ("told", two[1]), ("told", two[0])), again, ("ask", 1, 1, right, ("told", two[0]), ("told", two[1])),
            ("ask", 0, 0, ("none",), ("told", two[1]), ("told", two[0])), ("ask", 0, 0, ("none",), ("told", two[0]), ("told", two[0])),
            ("ask", 0, 0, ("none",), ("told", two[0])), right + (("none",),), ("ask", 0, 2) + right[3:], ("ask", -1, 0) + right[3:],
            ("ask", False, 0) + right[3:], ("ask", 0, 0, ("told", two[0]), ("told", two[0]), ("told", two[1])), ("none",), ("told", two[0]),
            ("told", ((0, True), (1, 0))), ("ask", 0, 0, ("none",), ("told", [(0, 1), (1, 0)]), ("told", two[1])), ["none"], ("told",), ("none", ()),
            ("ask", 0, 0, ("none",), ("none",), ("told", two[1])), ("ask", 0, 0, ("none",), ("told", two[0]), ("none",)), right[:3],
            ("Ask",) + right[1:], ("ask", "0", 0) + right[3:], ("told", X), ("told", ((1,),)), (), ("ask",), ("", two[0]),
            ("ask", 1, 0, ("none",), ("told", two[1]), ("ask", 1, 1, ("none",), ("told", two[0]), ("none",))),
            ("ask", 1, 0, ("none",), ("told", two[1]), ("ask", 1, 1, ("none",), ("none",), ("told", two[0]))),
        ):
            self.assertIs(is_cell_paper(2, (), value), is_paper(SMALL[2], 2, value), value)

    def full_paper(self, squares, sides, order):
        """A paper that asks the cells in an order, also those that are known."""
        if len(squares) <= 1:
            return ("told", squares[0]) if squares else ("none",)
        (row, column), rest = order[0], order[1:]
        parts = [[some for some in squares if some[row][column] == sign] for sign in (-1, 0, 1)]
        return ("ask", row, column) + tuple(self.full_paper(part, sides, rest) for part in parts)

    def test_long_papers(self):
        for sides in (2, 3, 4, 5):
            paper = self.full_paper(LISTED[sides], sides, cells(sides))
            self.assertIs(is_cell_paper(sides, (), paper), True)
            self.assertIs(is_cell_paper(sides, (("cell", 0, 0, 0),), paper), False)
            wrong = self.full_paper(LISTED[sides][1:], sides, cells(sides))
            self.assertIs(is_cell_paper(sides, (), wrong), False)
            self.assertIs(is_cell_paper(sides + 1, (), paper), False)
        self.assertIs(is_cell_paper(8, (), self.full_paper(list_squares(4), 4, cells(4))), False)

    def test_squares_of_other_sides(self):
        for sides, facts in ((1, ()), (2, (("cell", 0, 0, 0),)), (2, wrongsteps.T), (3, wrongsteps.T + (("cell", 1, 0, 0), ("cell", 1, 1, 0)))):
            for square in SMALL[1] + SMALL[2] + SMALL[3] + SMALL[4]:
                self.assertIs(is_cell_paper(sides, facts, ("told", square)), plain_told(sides, facts) == [square])

    def test_deep_papers(self):
        """The same known cell again and again, thirty deep."""
        value = ("told", P)
        for _ in range(28):
            value = ("ask", 0, 1, ("none",), ("none",), value)
        facts = tuple(("cell", i, j, P[i][j]) for i, j in cells(3))
        self.assertIs(is_cell_paper(3, facts, value), True)
        self.assertIs(is_cell_paper(3, facts * 4 + facts[:4], value), True)
        for other in (U, L, X, None):
            deep = ("told", other)
            for _ in range(28):
                deep = ("ask", 0, 1, ("none",), ("none",), deep)
            self.assertIs(is_cell_paper(3, facts, deep), False)


if __name__ == "__main__":
    unittest.main()
