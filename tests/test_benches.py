"""Benches: every call, good and bad ones, what can be taken back and done again, and what they show."""

import inspect
import random
import unittest

from signsquared import errors
from signsquared.lifebenches import Bench
from tests import wrongs, wrongsteps
from tests.plainly import P, SMALL, U, X, plain_heights, points_leaning
from tests.plainnotes import all_points, plain_stepped, random_state, random_step
from tests.wrongsteps import C, D, N, W


class Model:
    """A bench told plainly: the first state, the calls done, and those taken back, the last one at the end."""

    def __init__(self, state):
        self.start, self.done, self.undone = state, [], []

    def state(self):
        state = self.start
        for steps in self.done:
            for step in steps:
                state = plain_stepped(state, step)
        return state

    def copy(self):
        other = Model(self.start)
        other.done, other.undone = list(self.done), list(self.undone)
        return other


def shown(bench):
    """All that a bench shows."""
    return (
        bench.state, bench.square, bench.notes, bench.spot, bench.heights, bench.rise, bench.free, bench.here, bench.log,
        len(bench), bool(bench), list(bench.lines()),
    )


def redo_depth(bench):
    """The states to which calls that are done again would lead; the bench is as before then."""
    told = []

    def action(some):
        while True:
            try:
                some.redo()
            except errors.NothingToRedo:
                raise RuntimeError("no more")
            told.append(some.state)

    try:
        bench.attempt(action)
    except RuntimeError:
        pass
    return told


class Shown(unittest.TestCase):
    def check(self, bench, model):
        state = model.state()
        square, notes, (row, column) = state
        table, unit = plain_heights(square), [[abs(i - j) for j in range(len(square) + 1)] for i in range(len(square) + 1)]
        self.assertEqual(bench.state, state)
        self.assertEqual((bench.square, bench.notes, bench.spot), state)
        self.assertEqual(bench.heights, table)
        self.assertEqual(bench.rise, (sum(map(sum, table)) - sum(map(sum, unit))) // 2)
        self.assertEqual(bench.free, tuple(sorted(points_leaning(square, 1) + points_leaning(square, -1))))
        self.assertEqual(bench.here, notes[row][column])
        self.assertEqual(bench.log, tuple(step for steps in model.done for step in steps))
        self.assertEqual(len(bench), len(model.done))
        self.assertIs(bool(bench), not any(-1 in line for line in square))
        for i, j in all_points(len(square)):
            self.assertEqual(bench[(i, j)], (table[i][j], notes[i][j]))
            self.assertIs((i, j) in bench, (i, j) in bench.free)
        told = [" ".join(f"{table[i][j]}*" if (i, j) == (row, column) else f"{table[i][j]}" for j in range(len(table))) for i in range(len(table))]
        self.assertEqual(list(bench.lines()), told)

    def test_new_benches(self):
        for sides in (1, 2, 3, 4, 12):
            state = random_state(random.Random(sides), sides)
            self.check(Bench(state), Model(state))
        for square in SMALL[3]:
            state = square, random_state(random.Random(1), 3)[1], (0, 3)
            self.check(Bench(state), Model(state))

    def test_wrong_states(self):
        for value in wrongsteps.STATES:
            with self.assertRaises(errors.InvalidState):
                Bench(value)

    def test_many_calls(self):
        """Calls of all kinds by chance, good and bad ones, beside what is told plainly."""
        for seed in range(12):
            chance = random.Random(seed)
            sides = chance.choice((2, 2, 3, 4))
            state = random_state(chance, sides, 3)
            bench, model = Bench(state), Model(state)
            for _ in range(35):
                self.call(chance, sides, bench, model)
                self.assertEqual((bench.state, len(bench)), (model.state(), len(model.done)))
            self.check(bench, model)

    def call(self, chance, sides, bench, model):
        kind = chance.choice("do do += undo undo redo redo bad attempt".split())
        if kind == "do":
            step, ahead = random_step(chance, sides), model.state()
            model.done, model.undone = model.done + [(step,)], []
            self.assertIs(bench.do(step), model.state() != ahead)
        elif kind == "+=":
            script = tuple(random_step(chance, sides) for _ in range(chance.choice((0, 1, 2, 3))))
            model.done, model.undone = model.done + [script], []
            same = bench
            bench += script
            self.assertIs(bench, same)
        elif kind == "undo":
            self.back(bench, model, errors.NothingToUndo, "undo")
        elif kind == "redo":
            self.back(bench, model, errors.NothingToRedo, "redo")
        elif kind == "bad":
            before = shown(bench), redo_depth(bench)
            with self.assertRaises(errors.InvalidPoint):
                bench.do(("toggle", (0, 1)))
            self.assertEqual((shown(bench), redo_depth(bench)), before)
        else:
            self.attempts(chance, sides, bench, model)

    def back(self, bench, model, error, word):
        ahead, behind = (model.done, model.undone) if word == "undo" else (model.undone, model.done)
        call = getattr(bench, word)
        if not ahead:
            before = shown(bench)
            with self.assertRaises(error):
                call()
            self.assertEqual(shown(bench), before)
        else:
            behind.append(ahead.pop())
            self.assertIsNone(call())

    def attempts(self, chance, sides, bench, model):
        fails, inner = chance.random() < 0.5, model.copy()

        def action(some):
            self.assertIs(some, bench)
            for _ in range(3):
                self.call(chance, sides, some, inner)
            if fails:
                raise KeyError("gone wrong")
            return "told"

        if fails:
            before = shown(bench), redo_depth(bench)
            with self.assertRaises(KeyError):
                bench.attempt(action)
            self.assertEqual((shown(bench), redo_depth(bench)), before)
        else:
            self.assertEqual(bench.attempt(action), "told")
            model.done, model.undone = inner.done, inner.undone


class Calls(unittest.TestCase):
    def test_what_is_told_of_changes(self):
        bench = Bench(W)
        self.assertIs(bench.do(("toggle", (1, 1))), True)
        self.assertIs(bench.do(("go", (1, 1))), False)
        self.assertIs(bench.do(("go", (1, 2))), True)
        self.assertIs(bench.do(("meet", (1, 0))), False)
        self.assertIs(bench.do(("scale", (1, 1))), False)
        self.assertIs(bench.do(("set", (0, 0), (1, 1))), False)
        self.assertIs(bench.do(("set", (0, 0), (2, 1))), True)
        self.assertIs(bench.do(("colour", 1)), False)
        self.assertEqual(len(bench), 8)

    def test_calls_that_change_nothing_are_taken_back(self):
        bench = Bench(W)
        bench.do(("toggle", (1, 1)))
        toggled = bench.state
        bench.do(("colour", 1))
        bench += ()
        self.assertEqual((len(bench), bench.log), (3, (("toggle", (1, 1)), ("colour", 1))))
        for left in (2, 1):
            self.assertIsNone(bench.undo())
            self.assertEqual((bench.state, len(bench)), (toggled, left))
        self.assertEqual(bench.log, (("toggle", (1, 1)),))
        bench.undo()
        self.assertEqual((bench.state, len(bench), bench.log), (W, 0, ()))
        with self.assertRaises(errors.NothingToUndo):
            bench.undo()
        for many in (1, 2, 3):
            bench.redo()
            self.assertEqual((bench.state, len(bench)), (toggled, many))
        with self.assertRaises(errors.NothingToRedo):
            bench.redo()

    def test_a_script_is_one_call(self):
        bench = same = Bench(W)
        bench += C
        self.assertIs(bench, same)
        self.assertEqual((len(bench), bench.log), (1, C))
        behind = bench.state
        bench.undo()
        self.assertEqual(bench.state, W)
        bench.redo()
        self.assertEqual((bench.state, bench.log), (behind, C))

    def test_a_new_call_ends_what_could_be_done_again(self):
        for call in (lambda some: some.do(("colour", 1)), lambda some: some.do(("tip",)), lambda some: some.__iadd__(()), lambda some: some.__iadd__(C)):
            bench = Bench(W)
            bench += C
            bench.do(("tip",))
            bench.undo()
            bench.undo()
            call(bench)
            with self.assertRaises(errors.NothingToRedo):
                bench.redo()
            self.assertEqual(len(bench), 1)
            bench.undo()
            bench.redo()

    def test_calls_with_errors_do_not(self):
        bench = Bench(W)
        bench += C
        behind = bench.state
        bench.undo()
        for step, error in ((("tip", 1), "InvalidStep"), (("go", (3, 0)), "InvalidPoint"), (("join", (0,)), "Unlike"), (None, "InvalidStep")):
            with self.assertRaises(getattr(errors, error)):
                bench.do(step)
            with self.assertRaises(getattr(errors, "InvalidScript" if error == "InvalidStep" else error)):
                bench += (("tip",), step)
            self.assertEqual((bench.state, len(bench), bench.log), (W, 0, ()))
        with self.assertRaises(errors.NothingToUndo):
            bench.undo()
        bench.redo()
        self.assertEqual(bench.state, behind)

    def test_wrong_steps_and_scripts(self):
        bench = Bench(W)
        bench.do(("invert",))
        before = shown(bench)
        for value in wrongsteps.STEPS:
            with self.assertRaises(errors.InvalidStep):
                bench.do(value)
        for value in wrongsteps.SCRIPTS:
            with self.assertRaises(errors.InvalidScript):
                bench += value
        self.assertEqual(shown(bench), before)

    def test_the_first_step_that_errs_is_told(self):
        bench = Bench(W)
        for script, error in (
            ((("tip",), ("go", (3, 3)), ("meet", (0,))), errors.InvalidPoint), ((("tip",), ("meet", (0,)), ("go", (3, 3))), errors.Unlike),
            ((("go", (3, 3)), ("tip", 1)), errors.InvalidScript), ((("go", (3, 3)),) * 13, errors.InvalidScript),
        ):
            with self.assertRaises(error):
                bench += script
        self.assertEqual((bench.state, len(bench)), (W, 0))

    def test_sixty_calls(self):
        self.assertEqual(Bench.MOST, 60)
        self.assertEqual(Bench(W).MOST, 60)
        for call in (lambda some: some.do(("tip",)), lambda some: some.__iadd__(()), lambda some: some.__iadd__(C), lambda some: some.do(("colour", 1))):
            bench = Bench(W)
            for _ in range(59):
                bench.do(("go", (0, 1)))
            call(bench)
            self.assertEqual(len(bench), 60)
            before = shown(bench)
            for more in (lambda some: some.do(("tip",)), lambda some: some.__iadd__(()), lambda some: some.__iadd__(C), lambda some: some.do(("colour", 1))):
                with self.assertRaises(errors.TooMany) as caught:
                    more(bench)
                self.assertEqual(caught.exception.limit, 60)
                self.assertEqual(shown(bench), before)
            # The limit comes behind all other errors.
            for value, error in ((("tip", 1), errors.InvalidStep), (("toggle", (0, 0)), errors.InvalidPoint), (("meet", (0,)), errors.Unlike)):
                with self.assertRaises(error):
                    bench.do(value)
                with self.assertRaises(errors.InvalidScript if error is errors.InvalidStep else error):
                    bench += (value,)
            bench.undo()
            bench.redo()
            with self.assertRaises(errors.NothingToRedo):
                bench.redo()
            self.assertEqual(len(bench), 60)
            bench.undo()
            bench.undo()
            bench += C
            self.assertEqual(len(bench), 59)

    def test_sixty_calls_one_more_and_what_could_be_done_again(self):
        bench = Bench(W)
        for _ in range(60):
            bench += ()
        for _ in range(60):
            bench.undo()
        for _ in range(60):
            bench.redo()
        with self.assertRaises(errors.TooMany):
            bench += ()
        bench.undo()
        bench.do(("tip",))
        with self.assertRaises(errors.TooMany):
            bench.do(("tip",))
        self.assertEqual(len(bench), 60)

    def test_all_is_taken_back_and_done_anew(self):
        for seed in range(4):
            chance = random.Random(seed)
            state = random_state(chance, 3, 3)
            bench, states = Bench(state), [state]
            for _ in range(20):
                if chance.random() < 0.5:
                    bench.do(random_step(chance, 3))
                else:
                    bench += tuple(random_step(chance, 3) for _ in range(2))
                states.append(bench.state)
            for told in states[-2::-1]:
                bench.undo()
                self.assertEqual(bench.state, told)
            for told in states[1:]:
                bench.redo()
                self.assertEqual(bench.state, told)


class Attempts(unittest.TestCase):
    def test_what_is_returned(self):
        bench = Bench(W)
        for value in (None, 0, False, "x", [], (1, 2), bench):
            self.assertIs(bench.attempt(lambda some: value), value)
        self.assertIs(bench.attempt(lambda some: some), bench)
        self.assertIs(bench.attempt(lambda some: some.do(("tip",))), False)
        self.assertEqual(len(bench), 1)

    def test_functions_that_lead_the_bench(self):
        bench = Bench(W)

        def action(some):
            some += C
            some.do(("tip",))
            some.undo()
            return len(some)

        self.assertEqual(bench.attempt(action), 1)
        self.assertEqual(bench.log, C)
        bench.redo()
        self.assertEqual(bench.log, C + (("tip",),))

    def test_errors_of_all_kinds(self):
        for error in (KeyError, ValueError, ZeroDivisionError, errors.Unlike, errors.NothingToUndo, StopIteration, KeyboardInterrupt, AssertionError):
            bench = Bench(W)
            bench += C
            bench.do(("invert",))
            bench.undo()
            before = shown(bench), redo_depth(bench)
            made = error("so")

            def action(some):
                some.do(("tip",))
                some += C
                some.undo()
                some.undo()
                some.undo()
                raise made

            with self.assertRaises(error) as caught:
                bench.attempt(action)
            self.assertIs(caught.exception, made)
            self.assertEqual((shown(bench), redo_depth(bench)), before)
            bench.redo()
            self.assertEqual(bench.log, C + (("invert",),))

    def test_errors_of_the_bench_itself(self):
        bench = Bench(W)
        for action, error in (
            (lambda some: [some.do(("tip",)), some.do(("go", (3, 3)))], errors.InvalidPoint), (lambda some: [some.do(("mirror",)), some.redo()], errors.NothingToRedo),
            (lambda some: [some.do(("tip",)), some.undo(), some.undo()], errors.NothingToUndo), (lambda some: [some.do(("tip",)) for _ in range(61)], errors.TooMany),
            (lambda some: [some.do(("mirror",)), some[3, 3]], errors.InvalidPoint), (lambda some: [some.do(("mirror",)), list(some)], TypeError),
            (lambda: None, TypeError), (lambda some, other: None, TypeError),
        ):
            with self.assertRaises(error):
                bench.attempt(action)
            self.assertEqual((bench.state, len(bench), redo_depth(bench)), (W, 0, []))

    def test_attempts_within_one_another(self):
        bench = Bench(W)

        def inner(some):
            some.do(("mirror",))
            raise KeyError("inner")

        def outer(some):
            some.do(("tip",))
            try:
                some.attempt(inner)
            except KeyError:
                pass
            self.assertEqual(some.log, (("tip",),))
            some.do(("upend",))
            return "outer"

        self.assertEqual(bench.attempt(outer), "outer")
        self.assertEqual(bench.log, (("tip",), ("upend",)))

        def failing(some):
            some.undo()
            some.attempt(lambda other: other.do(("invert",)))
            self.assertEqual(some.log, (("tip",), ("invert",)))
            some.attempt(inner)

        with self.assertRaises(KeyError):
            bench.attempt(failing)
        self.assertEqual(bench.log, (("tip",), ("upend",)))
        with self.assertRaises(errors.NothingToRedo):
            bench.redo()

    def test_an_attempt_is_no_call_of_its_own(self):
        bench = Bench(W)
        bench.attempt(lambda some: [some.do(("tip",)), some.do(("mirror",))])
        self.assertEqual(len(bench), 2)
        bench.undo()
        bench.attempt(lambda some: None)
        self.assertIsNone(bench.redo())


class Asked(unittest.TestCase):
    def test_points(self):
        bench = Bench(W)
        for value in wrongsteps.POINTS:
            with self.assertRaises(errors.InvalidPoint):
                bench[value]
        self.assertEqual([bench[0, 0], bench[(2, 0)], bench[1, 1]], [(0, (1, 1)), (2, (1, 1)), (0, (3, 1))])

    def test_hollows_and_hills(self):
        bench = Bench((X, tuple((((1, 1),) * 4,) * 4), (0, 0)))
        for value in wrongs.ANY + wrongsteps.INNER_POINTS:
            told = repr(value) in ("(1, 1)", "(1, 2)", "(2, 1)", "(2, 2)")
            self.assertIs(value in bench, told)
        self.assertEqual(bench.free, ((1, 1), (1, 2), (2, 1), (2, 2)))

    def test_iterating(self):
        bench = Bench(W)
        for ask in (iter, list, tuple, sorted, set, sum, max, enumerate, lambda some: [0 for _ in some], lambda some: [*some]):
            with self.assertRaises(TypeError):
                ask(bench)

    def test_equality(self):
        one, other = Bench(W), Bench(W)
        self.assertIs(one == other, True)
        one += ()
        one.do(("colour", 1))
        self.assertIs(one == other, True)
        self.assertIs(one != other, False)
        one.do(("go", (0, 0)))
        self.assertIs(one == other, False)
        self.assertIs(one != other, True)
        one.undo()
        self.assertIs(one == other, True)
        for value in wrongs.ANY + [W, list(W), D, N]:
            self.assertIs(one == value, False)
            self.assertIs(value == one, False)

    def test_lines_an_item_at_a_time(self):
        bench = Bench(W)
        lines = bench.lines()
        self.assertTrue(inspect.isgenerator(lines))
        bench.do(("toggle", (1, 1)))
        # They show what there is as the first item is asked for.
        self.assertEqual(next(lines), "0 1 2")
        bench.undo()
        bench.do(("go", (2, 2)))
        self.assertEqual([next(lines), next(lines)], ["1 2* 1", "2 1 0"])
        with self.assertRaises(StopIteration):
            next(lines)
        self.assertEqual(list(bench.lines()), ["0 1 2", "1 0 1", "2 1 0*"])
        one, two = bench.lines(), bench.lines()
        self.assertEqual([next(one), next(two), next(one), next(two)], ["0 1 2", "0 1 2", "1 0 1", "1 0 1"])

    def test_properties_are_not_assigned(self):
        bench = Bench(W)
        for name in "state square notes spot heights rise free here log".split():
            self.assertIsInstance(vars(Bench)[name], property)
            with self.assertRaises(AttributeError):
                setattr(bench, name, W)
        self.assertEqual(bench.state, W)

    def test_all_methods_stand_in_the_class(self):
        names = """__init__ do __iadd__ undo redo attempt state square notes spot heights rise free here log __getitem__ __contains__
            __len__ __bool__ __iter__ __eq__ lines MOST""".split()
        self.assertTrue(set(names) <= set(vars(Bench)))
        self.assertEqual((Bench.__bases__, Bench.__module__), ((object,), "signsquared.lifebenches"))
        told = [str(inspect.signature(some)) for some in (Bench, Bench.do, Bench.undo, Bench.redo, Bench.attempt, Bench.lines)]
        self.assertEqual(told, ["(state)", "(self, step)", "(self)", "(self)", "(self, action)", "(self)"])

    def test_what_is_returned_belongs_to_the_caller(self):
        bench = Bench(W)
        bench += C
        for name in "state square notes spot heights free here log".split():
            self.assertIsInstance(getattr(bench, name), tuple)
        for square in (U, P):
            self.assertEqual(Bench((square, tuple((((1, 1),) * 4,) * 4), (0, 0))).square, square)


if __name__ == "__main__":
    unittest.main()
