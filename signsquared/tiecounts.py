"""Which squares have which ties, and how many."""

from signsquared.fullloops import ties_of
from signsquared.helpers import check_at_most, check_sides
from signsquared.ringties import check_ties, list_ties
from signsquared.squarelists import squares


def squares_tied(ties):
    """The ascending list of all squares with these ties, of at most 5 pairs."""
    check_ties(ties)
    pairs = len(ties) // 2
    check_at_most(pairs, 5)
    return [square for square in squares(pairs) if ties_of(square) == ties]


def count_tied(ties):
    """How many squares have these ties, of at most 5 pairs."""
    return len(squares_tied(ties))


def tie_counts(sides):
    """The ascending list of the pairs of all ties and of how many squares of at most 5 sides have them."""
    check_sides(sides)
    check_at_most(sides, 5)
    tally = {ties: 0 for ties in list_ties(sides)}
    for square in squares(sides):
        ties = ties_of(square)
        tally[ties] = tally[ties] + 1
    return list(tally.items())
