"""Ice counts, and sums of weights over all squares."""

from signsquared.errors import InvalidWeights
from signsquared.helpers import are_numbers, check_at_most, check_sides, power
from signsquared.ice import row_sorts, sort_counts
from signsquared.squarelists import sum_of_worths, tally_squares


def row_counts(state, row):
    """The ice counts of a row behind a state."""
    sorts = row_sorts(state, row)
    flat = sorts.count("across") + sorts.count("down")
    signs = sorts.count("one") + sorts.count("minus")
    return len(row) - flat - signs, flat, signs


def ice_counts(square):
    """The triple of how many cells are "none" or "both", "across" or "down", "one" or "minus"."""
    none, both, across, down, ones, minus = sort_counts(square)
    return none + both, across + down, ones + minus


def ice_terms(sides):
    """The ascending list of the pairs of ice counts and of how many squares of at most 5 sides have them."""
    check_sides(sides)
    check_at_most(sides, 5)
    tally = tally_squares(sides, (0, 0, 0), row_counts)
    return sorted([(counts, many) for counts, many in tally.items()])


def ice_sum(sides, weights):
    """The sum, over all squares of at most 6 sides, of what they are worth with ice weights."""
    check_sides(sides)
    if not are_numbers(weights, 3, -1000, 1000):
        raise InvalidWeights("this is no ice weights")
    check_at_most(sides, 6)

    def worth(index, state, row):
        counts = row_counts(state, row)
        return power(weights[0], counts[0]) * power(weights[1], counts[1]) * power(weights[2], counts[2])

    return sum_of_worths(sides, worth)
