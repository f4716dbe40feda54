"""States of a square with notes and a spot, steps that lead from one to another, and scripts."""

from signsquared.below import join, meet
from signsquared.errors import InvalidScript, InvalidState, InvalidStep
from signsquared.helpers import are_numbers, check_any_point, is_between, is_long, length_between
from signsquared.likemoves import table_moved
from signsquared.notes import are_notes, is_share, notes_by_colour, notes_times, notes_toggled, notes_turned_over
from signsquared.notes import notes_with, turned_over
from signsquared.squares import is_order, is_square, order_square
from signsquared.toggles import toggled, toggled_colour

MOST_STEPS = 12
MOST_IN_SHARE = 1000
MOST_COORDINATE = 12

# For each word of a step, what stands behind it.
STEPS = {
    "toggle": ("point",),
    "colour": ("colour",),
    "tip": (),
    "mirror": (),
    "upend": (),
    "invert": (),
    "scale": ("share",),
    "set": ("point", "share"),
    "go": ("point",),
    "meet": ("order",),
    "join": ("order",),
}
MOVES_OF_STEPS = {"tip": "tipped", "mirror": "mirrored", "upend": "upended"}


def is_item(kind, value):
    """Whether any value can stand behind the word of a step as what is told."""
    if kind == "point":
        return are_numbers(value, 2, 0, MOST_COORDINATE)
    if kind == "colour":
        return is_between(value, 0, 1)
    if kind == "order":
        return is_order(value)
    return is_share(value) and max(value) <= MOST_IN_SHARE


def check_state(state):
    """Raise InvalidState unless this is a state."""
    if not is_state(state):
        raise InvalidState("this is no state")


def check_step(step):
    """Raise InvalidStep unless this is a step."""
    if not is_step(step):
        raise InvalidStep("this is no step")


def check_script(script):
    """Raise InvalidScript unless this is a script."""
    if not is_script(script):
        raise InvalidScript("this is no script")


def spot_moved(sides, spot, word):
    """Where a spot comes to if a square is tipped, mirrored or upended."""
    row, column = spot
    if word == "tip":
        return column, row
    return (row, sides - column) if word == "mirror" else (sides - row, column)


def square_behind(square, step):
    """The square behind a step."""
    word = step[0]
    if word == "toggle":
        return toggled(square, step[1])
    if word == "colour":
        return toggled_colour(square, step[1])
    if word == "meet":
        return meet(square, order_square(step[1]))
    if word == "join":
        return join(square, order_square(step[1]))
    return table_moved(square, MOVES_OF_STEPS.get(word, "stay"))


def notes_behind(sides, notes, step):
    """The notes behind a step."""
    word = step[0]
    if word == "toggle":
        return notes_toggled(sides, notes, step[1])
    if word == "colour":
        return notes_by_colour(sides, notes, step[1])
    if word == "invert":
        return notes_turned_over(notes)
    if word == "scale":
        return notes_times(notes, step[1])
    if word == "set":
        return notes_with(notes, step[1], step[2])
    return table_moved(notes, MOVES_OF_STEPS.get(word, "stay"))


def spot_behind(sides, spot, step):
    """The spot behind a step."""
    if step[0] == "go":
        return step[1]
    return spot_moved(sides, spot, step[0]) if step[0] in MOVES_OF_STEPS else spot


def state_behind(state, step):
    """The state behind a step, both of which are known to be such."""
    square, notes, spot = state
    if step[0] in ("set", "go"):
        check_any_point(len(square), step[1])
    changed = square_behind(square, step)
    return changed, notes_behind(len(square), notes, step), spot_behind(len(square), spot, step)


def is_state(value):
    """Whether any value is a state."""
    if not is_long(value, 3) or not is_square(value[0]):
        return False
    sides = len(value[0])
    return are_notes(sides, value[1]) and are_numbers(value[2], 2, 0, sides)


def is_step(value):
    """Whether any value is a step."""
    if not length_between(value, 1, 3) or not isinstance(value[0], str) or value[0] not in STEPS:
        return False
    kinds = STEPS[value[0]]
    if len(value) != len(kinds) + 1:
        return False
    return all([is_item(kind, item) for kind, item in zip(kinds, value[1:])])


def is_script(value):
    """Whether any value is a script."""
    return length_between(value, 0, MOST_STEPS) and all([is_step(step) for step in value])


def stepped(state, step):
    """The state behind a step."""
    check_state(state)
    check_step(step)
    return state_behind(state, step)


def all_stepped(state, script):
    """The list of the state and of the states behind each step of a script."""
    check_state(state)
    check_script(script)
    states = [state]
    for step in script:
        states.append(state_behind(states[-1], step))
    return states


def step_back(state, step):
    """The step that leads back from behind a step, or None."""
    # For its errors: whatever leads back does so only from where a step leads.
    stepped(state, step)
    word = step[0]
    if word == "scale":
        return ("scale", turned_over(step[1]))
    if word == "set":
        row, column = step[1]
        note = state[1][row][column]
        return ("set", step[1], note) if is_item("share", note) else None
    if word == "go":
        return ("go", state[2])
    return None if word in ("meet", "join") else step
