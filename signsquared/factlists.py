"""Facts of squares, and the squares that go with them."""

from signsquared.errors import InvalidFacts, InvalidNumber
from signsquared.helpers import check_at_most, check_count, check_sides, is_between, is_long, length_between
from signsquared.squarelists import next_rows
from signsquared.squares import check_square

MOST_FACTS = 40

# For each word: by how much the greatest row and the greatest column are less than the sides, and the numbers' bounds.
FACTS = {
    "cell": (1, 1, -1, 1),
    "along": (1, 0, 0, 1),
    "down": (0, 1, 0, 1),
    "corner": (0, 0, 0, 12),
    "least": (0, 0, -40, 40),
    "most": (0, 0, -40, 40),
}


def is_fact(sides, value):
    """Whether any value is a fact of so many sides."""
    if not is_long(value, 4) or not isinstance(value[0], str) or value[0] not in FACTS:
        return False
    word, row, column, number = value
    rows, columns, low, high = FACTS[word]
    return is_between(row, 0, sides - rows) and is_between(column, 0, sides - columns) and is_between(number, low, high)


def check_facts(sides, facts):
    """Raise InvalidSides or InvalidFacts unless these are facts of so many sides."""
    if not are_facts(sides, facts):
        raise InvalidFacts("this is no facts of so many sides")


def tells_row(fact):
    """Whether a fact tells of the integers of its row, and not of the rows ahead of it."""
    return fact[0] in ("cell", "along")


def facts_by_rows(sides, facts):
    """For each number of rows from 0 on, the list of the facts that are decided by so many first rows."""
    return [
        [fact for fact in facts if (fact[1] + 1 if tells_row(fact) else fact[1]) == rows]
        for rows in range(sides + 1)
    ]


def is_so(fact, row, state):
    """Whether a fact is so, told by the last one of the rows that decide it, and by what the columns come to then."""
    word, rows, column, number = fact
    if word == "cell":
        return row[column] == number
    if word == "along":
        return sum(row[:column]) == number
    if word == "down":
        return state[column] == number
    corner = sum(state[:column])
    if word == "corner":
        return corner == number
    height = rows + column - 2 * corner
    return height >= number if word == "least" else height <= number


def all_so(facts, row, state):
    """Whether all of some facts that are decided by as many rows are so."""
    return all([is_so(fact, row, state) for fact in facts])


def goes(square, facts):
    """Whether what is known to be a square goes with what is known to be facts."""
    begin, *stages = facts_by_rows(len(square), facts)
    state = (0,) * len(square)
    if not all_so(begin, (), state):
        return False
    for row, stage in zip(square, stages):
        state = tuple([come + sign for come, sign in zip(state, row)])
        if not all_so(stage, row, state):
            return False
    return True


def steps_ahead(sides, facts):
    """For each row, a dict of the list of the pairs (row, state behind) that can come from each state."""
    begin, *stages = facts_by_rows(sides, facts)
    start = (0,) * sides
    states = {start: True} if all_so(begin, (), start) else {}
    layers = []
    for stage in stages:
        layer = {
            state: [(row, behind) for row, behind in next_rows(state) if all_so(stage, row, behind)]
            for state in states
        }
        states = {behind: True for steps in layer.values() for row, behind in steps}
        layers.append(layer)
    return layers


def told_layers(sides, facts):
    """For each row, a dict of the list of the triples (row, state behind, how many ways lead on) from each state.

    Only steps of squares that go with the facts are there; if there are none of these, all dicts are empty.
    """
    layers, ways = [], {(1,) * sides: 1}
    for ahead in steps_ahead(sides, facts)[::-1]:
        layer = {}
        for state, steps in ahead.items():
            further = [(row, behind, ways[behind]) for row, behind in steps if behind in ways]
            if further:
                layer[state] = further
        ways = {state: sum([many for row, behind, many in steps]) for state, steps in layer.items()}
        layers.append(layer)
    return layers[::-1]


def checked_layers(sides, facts, limit):
    """The layers of the squares that go with facts, of at most so many sides."""
    check_facts(sides, facts)
    check_at_most(sides, limit)
    return told_layers(sides, facts)


def layers_count(layers):
    """How many squares layers tell."""
    return sum([many for steps in layers[0].values() for row, behind, many in steps])


def layers_square(layers, number):
    """The square with an index among those that layers tell."""
    state, rest, rows = (0,) * len(layers), number, []
    for layer in layers:
        row, state, rest = step_with(layer[state], rest)
        rows.append(row)
    return tuple(rows)


def step_with(steps, number):
    """The row of the step by which the way with an index goes on, the state behind, and its index there."""
    at, rest = 0, number
    while rest >= steps[at][2]:
        rest = rest - steps[at][2]
        at = at + 1
    row, behind, many = steps[at]
    return row, behind, rest


def layers_squares(layers):
    """The ascending list of all squares that layers tell."""
    return [layers_square(layers, number) for number in range(layers_count(layers))]


def are_facts(sides, value):
    """Whether any value is facts of so many sides."""
    check_sides(sides)
    return length_between(value, 0, MOST_FACTS) and all([is_fact(sides, fact) for fact in value])


def goes_with(square, facts):
    """Whether a square goes with facts."""
    check_square(square)
    check_facts(len(square), facts)
    return goes(square, facts)


def count_told(sides, facts):
    """How many squares of at most 8 sides go with facts."""
    return layers_count(checked_layers(sides, facts, 8))


def first_told(sides, facts):
    """The first square of at most 8 sides that goes with facts, or None."""
    layers = checked_layers(sides, facts, 8)
    return layers_square(layers, 0) if layers_count(layers) > 0 else None


def last_told(sides, facts):
    """The last square of at most 8 sides that goes with facts, or None."""
    layers = checked_layers(sides, facts, 8)
    many = layers_count(layers)
    return layers_square(layers, many - 1) if many > 0 else None


def told_with(sides, facts, number):
    """The square, of at most 8 sides, with this index among those that go with facts."""
    check_facts(sides, facts)
    check_count(number)
    layers = checked_layers(sides, facts, 8)
    if number >= layers_count(layers):
        raise InvalidNumber("there are not so many squares that go with the facts")
    return layers_square(layers, number)


def squares_told(sides, facts):
    """The ascending list of all squares of at most 5 sides that go with facts."""
    return layers_squares(checked_layers(sides, facts, 5))
