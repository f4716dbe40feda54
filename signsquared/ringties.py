"""Ties of places on a ring."""

from math import comb

from signsquared.errors import InvalidPairs, InvalidTies
from signsquared.helpers import are_numbers, check_number, is_pair, length_between

MOST_PAIRS = 12


def cross_nowhere(partners):
    """Whether no two of the ties cross that lead from each place to its partner."""
    begun = []
    for place, partner in enumerate(partners):
        if place < partner:
            begun.append(place)
        elif begun.pop() != partner:
            return False
    return True


def check_ties(ties):
    """Raise InvalidTies unless these are ties."""
    if not is_ties(ties):
        raise InvalidTies("this is no ties")


def partners_by(value):
    """The tuple of the partners that pairs tell for as many places as there can be, if they are told for all."""
    partners = {}
    for one, other in value:
        partners[one] = other
        partners[other] = one
    return tuple([partners.get(place, place) for place in range(2 * len(value))])


def list_ties(pairs):
    """The ascending list of all ties of so many pairs, the empty tuple for none."""
    if pairs == 0:
        return [()]
    # The place 0 and its partner part the others into those between them and those behind.
    return [
        joined_ties(within, behind)
        for inner in range(pairs) for within in list_ties(inner) for behind in list_ties(pairs - 1 - inner)
    ]


def joined_ties(within, behind):
    """Ties of a first pair, with ties within it, and ties behind it."""
    last = len(within) + 1
    inner = tuple([place + 1 for place in within])
    return (last,) + inner + (0,) + tuple([place + last + 1 for place in behind])


def is_ties(value):
    """Whether any value is ties."""
    if not length_between(value, 2, 2 * MOST_PAIRS) or not are_numbers(value, len(value), 0, len(value) - 1):
        return False
    if not all([value[partner] == place and partner != place for place, partner in enumerate(value)]):
        return False
    return cross_nowhere(value)


def ties_pairs(ties):
    """The ascending tuple of all pairs that are tied, the lesser place first."""
    check_ties(ties)
    return tuple([(place, partner) for place, partner in enumerate(ties) if place < partner])


def ties_by_pairs(value):
    """The ties with just these pairs."""
    if length_between(value, 1, MOST_PAIRS) and all([is_pair(pair) for pair in value]):
        told = partners_by(value)
        if is_ties(told) and ties_pairs(told) == value:
            return told
    raise InvalidPairs("this is no ascending tuple of all pairs of some ties")


def ties_turned(ties, steps):
    """Ties turned by so many steps."""
    check_ties(ties)
    check_number(steps, -1000, 1000)
    places = len(ties)
    return tuple([(ties[(place - steps) % places] + steps) % places for place in range(places)])


def ties_mirrored(ties):
    """Ties mirrored."""
    check_ties(ties)
    last = len(ties) - 1
    return tuple([last - partner for partner in ties[::-1]])


def all_ties(pairs):
    """The ascending list of all ties of 1 to 6 pairs."""
    check_number(pairs, 1, 6)
    return list_ties(pairs)


def count_ties(pairs):
    """How many ties of 1 to 60 pairs there are."""
    check_number(pairs, 1, 60)
    return comb(2 * pairs, pairs) // (pairs + 1)
