"""Squares, notes and scripts as texts, and read from them."""

from signsquared.errors import InvalidText
from signsquared.helpers import check_sides
from signsquared.lifesteps import STEPS, check_script, is_script
from signsquared.notes import are_notes, check_notes
from signsquared.squares import check_square, is_square

# The place of a sign in this string is greater by 1 than its integer.
SIGNS = "-0+"
DIGITS = "0123456789"

# Python writes and reads no integers of more than some thousand digits, so long ones go part by part.
PART_DIGITS = 18
PART = 1000000000000000000


def number_text(number):
    """An integer from 0 on in digits."""
    parts = []
    rest = number
    while rest >= PART:
        parts.append(str(rest % PART).zfill(PART_DIGITS))
        rest = rest // PART
    return str(rest) + "".join(parts[::-1])


def number_by(text):
    """The integer that digits tell, with leading zeros too, or None."""
    if text == "" or not all([sign in DIGITS for sign in text]):
        return None
    head = len(text) % PART_DIGITS
    number = int("0" + text[:head])
    for start in range(head, len(text), PART_DIGITS):
        number = number * PART + int(text[start:start + PART_DIGITS])
    return number


def share_text(share):
    """A share as a text."""
    top, below = share
    return number_text(top) if below == 1 else f"{number_text(top)}/{number_text(below)}"


def share_by(text):
    """The pair that the text of a share tells, perhaps no share."""
    top, stroke, below = text.partition("/")
    return number_by(top), (number_by(below) if stroke else 1)


def separator(kind):
    """What stands between the integers of a point, or of an order."""
    return "-" if kind == "point" else " "


def item_text(kind, item):
    """What stands behind the word of a step, as a text."""
    if kind == "colour":
        return number_text(item)
    if kind == "share":
        return share_text(item)
    return separator(kind).join([number_text(number) for number in item])


def item_by(kind, text):
    """What a text tells behind the word of a step, perhaps nothing that can stand there."""
    if kind == "colour":
        return number_by(text)
    if kind == "share":
        return share_by(text)
    return tuple([number_by(part) for part in text.split(separator(kind))])


def step_text(step):
    """A step as a line."""
    return " ".join([step[0]] + [item_text(kind, item) for kind, item in zip(STEPS[step[0]], step[1:])])


def step_by(line):
    """What a line tells as a step, perhaps none."""
    word, blank, rest = line.partition(" ")
    kinds = STEPS.get(word, ())
    # An order is the only thing that has blanks of its own, and then it stands alone.
    items = [rest] if kinds == ("order",) else rest.split(" ")
    return (word,) + tuple([item_by(kind, item) for kind, item in zip(kinds, items)])


def written_notes(notes):
    """What is known to be notes as a text."""
    return "; ".join([" ".join([share_text(note) for note in row]) for row in notes])


def written_script(script):
    """What is known to be a script as a text."""
    return "\n".join([step_text(step) for step in script])


def check_text(text):
    """Raise InvalidText unless this is a string."""
    if not isinstance(text, str):
        raise InvalidText("this is no text")


def square_text(square):
    """A square as a text."""
    check_square(square)
    return "/".join(["".join([SIGNS[sign + 1] for sign in row]) for row in square])


def notes_text(sides, notes):
    """Notes of so many sides as a text."""
    check_notes(sides, notes)
    return written_notes(notes)


def script_text(script):
    """A script as a text."""
    check_script(script)
    return written_script(script)


def read_square(text):
    """The square that a text tells."""
    check_text(text)
    square = tuple([tuple([SIGNS.find(sign) - 1 for sign in row]) for row in text.split("/")])
    if not is_square(square):
        raise InvalidText("this is no text of a square")
    return square


def read_notes(sides, text):
    """The notes of so many sides that a text tells."""
    check_sides(sides)
    check_text(text)
    notes = tuple([tuple([share_by(note) for note in row.split(" ")]) for row in text.split("; ")])
    # What is read leniently, as leading zeros are, is written in another way.
    if not are_notes(sides, notes) or written_notes(notes) != text:
        raise InvalidText("this is no text of notes of so many sides")
    return notes


def read_script(text):
    """The script that a text tells."""
    check_text(text)
    script = tuple([step_by(line) for line in text.split("\n")]) if text else ()
    if not is_script(script) or written_script(script) != text:
        raise InvalidText("this is no text of a script")
    return script
