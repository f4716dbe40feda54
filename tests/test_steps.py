"""States, steps, scripts, and their texts, held against plain reckonings."""

import itertools
import random
import unittest

from signsquared.errors import InvalidText
from signsquared.lifesteps import all_stepped, is_script, is_state, is_step, step_back, stepped
from signsquared.lifetexts import notes_text, read_notes, read_script, read_square, script_text, square_text
from tests import wrongsteps
from tests.plainly import ALL_SMALL, random_squares
from tests.plainnotes import (
    plain_notes_text, plain_script_text, plain_square_text, plain_step_text, plain_stepped, random_notes, random_order,
    random_state, random_step,
)
from tests.wrongs import ANY
from tests.wrongsteps import C, D, N, W, right_notes, right_state, spoilt

EVERY_KIND = (
    ("toggle", (12, 0)), ("colour", 1), ("tip",), ("mirror",), ("upend",), ("invert",), ("scale", (1000, 999)), ("set", (0, 12), (7, 1000)),
    ("go", (12, 12)), ("meet", (0,)), ("join", tuple(range(12))), ("colour", 0),
)


def many_steps(seed=1, many=150):
    """Sides from 2 on, states and steps that can be done on them."""
    chance = random.Random(seed)
    for at in range(many):
        sides = chance.choice((2, 3, 4, 5)) if at % 15 else 12
        yield random_state(chance, sides), random_step(chance, sides)


class Predicates(unittest.TestCase):
    def test_states(self):
        chance = random.Random(1)
        for sides in (1, 2, 3, 7, 12):
            state = random_state(chance, sides)
            self.assertIs(is_state(state), True)
            for value in ([*state], state[:2], state + (0,), (state[0], state[1], (0, sides + 1)), (state[0], state[1], (-1, 0)),
                          (state[0], state[1][:-1], (0, 0)), (state[0], state[1], (0, True)), (state[0][:-1], state[1], (0, 0))):
                self.assertIs(is_state(value), False)
            for spot in itertools.product(range(sides + 1), repeat=2):
                self.assertIs(is_state(state[:2] + (spot,)), True)

    def test_wrong_states(self):
        for value in wrongsteps.STATES:
            with self.subTest(value=repr(value)[:80]):
                self.assertIs(is_state(value), False)

    def test_spoilt_states(self):
        for value in spoilt(W):
            self.assertIs(is_state(value), right_state(value))
        for value in spoilt(N):
            self.assertIs(is_state((D, value, (0, 2))), right_notes(value))

    def test_steps(self):
        for step in EVERY_KIND:
            self.assertIs(is_step(step), True)
        for _, step in many_steps():
            self.assertIs(is_step(step), True)

    def test_wrong_steps(self):
        for value in wrongsteps.STEPS:
            with self.subTest(value=repr(value)[:80]):
                self.assertIs(is_step(value), False)
                self.assertIs(is_script((value,)), False)

    def test_all_words_with_all_items(self):
        right = {
            "toggle": [(0, 12)], "colour": [0], "tip": [], "mirror": [], "upend": [], "invert": [], "scale": [(1, 2)], "set": [(1, 2), (1, 2)],
            "go": [(3, 4)], "meet": [(0, 1)], "join": [(2, 0, 1)],
        }
        items = [(), ((0, 12),), (0,), ((1, 2),), ((1, 2), (1, 2)), ((3, 4),), ((0, 1),), ((2, 0, 1),), ((2, 4), (2, 4)), ((2, 2),), (1, 1)]
        points, shares = [(0, 12), (1, 2), (3, 4), (0, 1), (2, 4), (2, 2)], [(1, 2), (3, 4)]
        fits = {
            "toggle": [(point,) for point in points], "go": [(point,) for point in points], "colour": [(0,), (1,)],
            "scale": [(share,) for share in shares], "set": [((1, 2), (1, 2))], "meet": [((0, 1),), ((2, 0, 1),)], "join": [((0, 1),), ((2, 0, 1),)],
        }
        for word, told in itertools.product(right, items):
            self.assertIs(is_step((word,) + told), told in fits.get(word, [()]), (word, told))
        for word, told in right.items():
            self.assertIs(is_step((word, *told)), True)

    def test_scripts(self):
        self.assertIs(is_script(EVERY_KIND), True)
        self.assertIs(is_script(()), True)
        self.assertIs(is_script(EVERY_KIND + (("tip",),)), False)
        for value in wrongsteps.SCRIPTS:
            with self.subTest(value=repr(value)[:80]):
                self.assertIs(is_script(value), False)


class Steps(unittest.TestCase):
    def test_each_step(self):
        words = {}
        for state, step in many_steps(1, 400):
            behind = stepped(state, step)
            self.assertEqual(behind, plain_stepped(state, step))
            self.assertIs(is_state(behind), True)
            words[step[0]] = True
        self.assertEqual(len(words), 11)

    def test_one_side(self):
        state = random_state(random.Random(1), 1)
        for step in (("colour", 0), ("tip",), ("mirror",), ("upend",), ("invert",), ("scale", (3, 2)), ("set", (1, 0), (5, 7)), ("go", (0, 1)),
                     ("meet", (0,)), ("join", (0,))):
            self.assertEqual(stepped(state, step), plain_stepped(state, step))

    def test_steps_back(self):
        backs = {}
        for state, step in many_steps(2, 400):
            back = step_back(state, step)
            backs[step[0]] = True
            if step[0] in ("meet", "join"):
                self.assertIsNone(back)
                continue
            self.assertIs(is_step(back), True)
            self.assertEqual(stepped(stepped(state, step), back), state)
            if step[0] not in ("scale", "set", "go"):
                self.assertEqual(back, step)
        self.assertEqual(len(backs), 11)

    def test_what_leads_back(self):
        self.assertEqual(step_back(W, ("scale", (5, 7))), ("scale", (7, 5)))
        self.assertEqual(step_back(W, ("set", (1, 1), (5, 7))), ("set", (1, 1), (3, 1)))
        self.assertEqual(step_back(W, ("set", (1, 1), (3, 1))), ("set", (1, 1), (3, 1)))
        self.assertEqual(step_back(W, ("go", (2, 0))), ("go", (1, 1)))

    def test_great_notes(self):
        for note, told in (((1000, 1), True), ((1001, 1), False), ((1, 1000), True), ((1, 1001), False), ((1000, 999), True), ((10 ** 119, 1), False)):
            state = (D, wrongsteps.other_note(note), (0, 0))
            back = step_back(state, ("set", (1, 1), (2, 3)))
            self.assertEqual(back, ("set", (1, 1), note) if told else None)
            self.assertEqual(step_back(state, ("set", (0, 1), (2, 3))), ("set", (0, 1), (2, 1)))
            for step in (("toggle", (1, 1)), ("invert",), ("scale", (2, 3)), ("go", (0, 1)), ("tip",), ("colour", 0)):
                self.assertEqual(stepped(stepped(state, step), step_back(state, step)), state)

    def test_scripts(self):
        chance = random.Random(3)
        for many in range(13):
            sides = chance.choice((2, 3, 4))
            state = random_state(chance, sides)
            script = tuple(random_step(chance, sides) for _ in range(many))
            told = [state]
            for step in script:
                told.append(plain_stepped(told[-1], step))
            self.assertEqual(all_stepped(state, script), told)

    def test_lists_are_new(self):
        once = all_stepped(W, C)
        once.append(1)
        self.assertEqual(len(all_stepped(W, C)), 4)


class Texts(unittest.TestCase):
    def test_squares(self):
        for square in ALL_SMALL + random_squares(7, 4) + random_squares(12, 4):
            text = square_text(square)
            self.assertEqual(text, plain_square_text(square))
            self.assertEqual(read_square(text), square)

    def test_notes(self):
        chance = random.Random(1)
        for sides in (1, 2, 3, 12):
            for most in (1, 2, 12, 1000, 10 ** 18, 10 ** 19 + 1, 10 ** 119):
                notes = random_notes(chance, sides, most)
                text = notes_text(sides, notes)
                self.assertEqual(text, plain_notes_text(notes))
                self.assertEqual(read_notes(sides, text), notes)
                with self.assertRaises(InvalidText):
                    read_notes(sides % 12 + 1, text)

    def test_numbers_of_many_digits(self):
        for number in (10 ** 17, 10 ** 18 - 1, 10 ** 18, 10 ** 18 + 1, 10 ** 35, 10 ** 36, 10 ** 36 + 10 ** 18, 12 ** 100, 10 ** 119 + 7):
            notes = (((number, 1), (1, number)), ((1, 1), (number, number + 1)))
            self.assertEqual(notes_text(1, notes), f"{number} 1/{number}; 1 {number}/{number + 1}")
            self.assertEqual(read_notes(1, notes_text(1, notes)), notes)
            with self.assertRaises(InvalidText):
                read_notes(1, f"0{number} 1/{number}; 1 1")

    def test_more_digits_than_python_writes(self):
        """Notes that have been toggled may have so many."""
        number = 10 ** 6000 + 10 ** 4999 + 3
        notes = (((number, 1), (1, number)), ((1, 1), (2, 1)))
        text = notes_text(1, notes)
        digits = "1" + "0" * 1000 + "1" + "0" * 4998 + "3"
        self.assertEqual(text, f"{digits} 1/{digits}; 1 2")
        self.assertEqual(read_notes(1, text), notes)

    def test_scripts(self):
        chance = random.Random(2)
        for many in range(13):
            script = tuple(random_step(chance, chance.choice((2, 3, 12))) for _ in range(many))
            text = script_text(script)
            self.assertEqual(text, plain_script_text(script))
            self.assertEqual(read_script(text), script)
        self.assertEqual(script_text(EVERY_KIND), plain_script_text(EVERY_KIND))
        self.assertEqual(read_script(script_text(EVERY_KIND)), EVERY_KIND)
        self.assertEqual((script_text(()), read_script("")), ("", ()))
        for step in EVERY_KIND:
            self.assertEqual(read_script(plain_step_text(step)), (step,))
        self.assertEqual(script_text((("join", random_order(chance, 12)),))[:5], "join ")

    def refused(self, read, text):
        try:
            return False, read(text)
        except InvalidText:
            return True, None

    def test_wrong_texts(self):
        for read, texts in ((read_square, wrongsteps.SQUARE_TEXTS), (read_script, wrongsteps.SCRIPT_TEXTS), (self.read_one, wrongsteps.NOTES_TEXTS)):
            for text in texts:
                with self.subTest(text=repr(text)[:80]):
                    self.assertEqual(self.refused(read, text), (True, None))

    def read_one(self, text):
        return read_notes(1, text)

    def read_two(self, text):
        return read_notes(2, text)

    def test_texts_that_differ_at_one_sign(self):
        """What is read of them, if anything, is written just so."""
        chance = random.Random(5)
        notes = random_notes(chance, 2, 30)
        lots = [
            (read_square, square_text, square_text(random_squares(4, 1)[0])), (read_square, square_text, "0+0/+-+/0+0"),
            (self.read_two, lambda some: notes_text(2, some), notes_text(2, notes)),
            (read_script, script_text, script_text(EVERY_KIND)), (read_script, script_text, "toggle 1-1\nset 0-10 3/4\nmeet 1 0 2"),
        ]
        counts = [0, 0]
        for read, write, text in lots:
            others = [text[:at] + text[at + 1:] for at in range(len(text))] + [text + sign for sign in " \n/;0-1\u0661"]
            for at in range(len(text) + 1):
                for sign in " 0129-+/;\nat\u0662\u00b2":
                    others += [text[:at] + sign + text[at + 1:], text[:at] + sign + text[at:]]
            for other in others:
                wrong, told = self.refused(read, other)
                counts[wrong] += 1
                if not wrong:
                    self.assertEqual(write(told), other)
        self.assertTrue(min(counts) > 30, counts)

    def test_any_values(self):
        for value in ANY:
            for read in (read_square, self.read_one, self.read_two, read_script):
                wrong, told = self.refused(read, value)
                if read == read_script and repr(value) == "''":
                    self.assertEqual(told, ())
                elif read == read_square and repr(value) == "'+0/0+'":
                    self.assertEqual(told, D)
                else:
                    self.assertTrue(wrong, (read, value))


if __name__ == "__main__":
    unittest.main()
