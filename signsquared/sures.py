"""What is sure of all squares that go with facts, and facts that clash."""

from signsquared.below import greatest_rows, least_rows
from signsquared.factlists import check_facts, checked_layers, facts_by_rows, goes, is_so, layers_count
from signsquared.heights import table_square
from signsquared.helpers import check_at_most, index_tuples
from signsquared.squarelists import next_rows


def sure_row(layer):
    """For each column the integer that all rows of a layer have there, or None."""
    rows = [row for steps in layer.values() for row, behind, many in steps]
    return tuple([signs[0] if min(signs) == max(signs) else None for signs in zip(*rows)])


def state_heights(rows, state):
    """The heights behind so many rows, told by what the columns come to there."""
    return tuple([rows + column - 2 * sum(state[:column]) for column in range(len(state) + 1)])


def heights_by_rows(layers):
    """For each number of rows, the list of the heights behind them in all squares that layers tell."""
    sides = len(layers)
    states = [list(layer) for layer in layers] + [[(1,) * sides]]
    return [[state_heights(rows, state) for state in some] for rows, some in enumerate(states)]


def square_if_goes(table, facts):
    """The square with these heights if it goes with facts, or None."""
    square = table_square(table)
    return square if goes(square, facts) else None


def broken_facts(stage, row, state):
    """The sum of the bits of those facts that are not so, of pairs of facts decided by as many rows and their bits."""
    return sum([bit for fact, bit in stage if not is_so(fact, row, state)])


def bits_by_rows(sides, facts):
    """The facts by the rows that decide them, each as a pair of it and of a bit for each of its indices."""
    bits = {}
    for index, told in enumerate(facts):
        bits[told] = bits.get(told, 0) + (1 << index)
    return [[(fact, bits[fact]) for fact in stage] for stage in facts_by_rows(sides, tuple(bits))]


def all_broken(sides, facts):
    """The list of all lots of facts that are just those that are not so for some square, as sums of bits."""
    begin, *stages = bits_by_rows(sides, facts)
    start = (0,) * sides
    layer = {start: {broken_facts(begin, (), start): True}}
    for stage in stages:
        grown = {}
        for state, lots in layer.items():
            for row, behind in next_rows(state):
                broken = broken_facts(stage, row, behind)
                further = grown.setdefault(behind, {})
                for lot in lots:
                    further[lot | broken] = True
        layer = grown
    return list(layer[(1,) * sides])


def sure_cells(sides, facts):
    """The integers in which all squares of at most 7 sides that go with facts are alike, None for others."""
    layers = checked_layers(sides, facts, 7)
    if layers_count(layers) == 0:
        return None
    return tuple([sure_row(layer) for layer in layers])


def height_bounds(sides, facts):
    """The pair of the tables of the least and of the greatest heights of squares that go with facts, or None."""
    layers = checked_layers(sides, facts, 7)
    if layers_count(layers) == 0:
        return None
    lots = heights_by_rows(layers)
    return least_rows(lots), greatest_rows(lots)


def least_told(sides, facts):
    """The square of at most 7 sides that goes with facts and is below all others that do, or None."""
    bounds = height_bounds(sides, facts)
    # One that is below all others has the least height at each point.
    return None if bounds is None else square_if_goes(bounds[0], facts)


def greatest_told(sides, facts):
    """The square of at most 7 sides that goes with facts and is above all others that do, or None."""
    bounds = height_bounds(sides, facts)
    return None if bounds is None else square_if_goes(bounds[1], facts)


def clash_in(sides, facts):
    """The first ascending tuple of as few indices as can be of facts with which no square goes, or None."""
    check_facts(sides, facts)
    check_at_most(sides, 7)
    check_at_most(len(facts), 8)
    lots = all_broken(sides, facts)
    for size in range(1, len(facts) + 1):
        for indices in index_tuples(len(facts), size):
            chosen = sum([1 << index for index in indices])
            # A square goes with the chosen facts if none of them is broken.
            if all([lot & chosen != 0 for lot in lots]):
                return indices
    return None
