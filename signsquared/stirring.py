"""Stirring ties at places of their ring, and the shares that stay."""

from signsquared.errors import InvalidPlace, InvalidWord, Unlike
from signsquared.helpers import check_at_most, check_number, is_between, is_integer, is_long, length_between
from signsquared.ringties import check_ties, list_ties
from signsquared.tiecounts import tie_counts

MOST_STIRRED = 60


def check_two_ties(one_ties, other_ties):
    """Raise InvalidTies or Unlike unless these are two ties of as many pairs."""
    check_ties(one_ties)
    check_ties(other_ties)
    if len(one_ties) != len(other_ties):
        raise Unlike("these ties have not as many pairs")


def tied_at(ties, place):
    """Ties with a place and the next one tied, and so the two with which both were."""
    after = (place + 1) % len(ties)
    # If both are tied already, these four lines tie them once more.
    told = {ties[place]: ties[after], ties[after]: ties[place]}
    told[place] = after
    told[after] = place
    return tuple([told.get(at, partner) for at, partner in enumerate(ties)])


def steps_behind(ways, known):
    """The ways from the ends of ways, one stirring longer, to ties that are not known, as a dict."""
    found = {}
    for ties, way in ways.items():
        for place in range(len(ties)):
            come = tied_at(ties, place)
            if come not in known:
                found[come] = way + (place,)
    return found


def are_places(value, places):
    """Whether any value is a stir word for a ring of so many places."""
    return length_between(value, 0, MOST_STIRRED) and all([is_between(place, 0, places - 1) for place in value])


def sums_by_stirring(shares):
    """The sums of the shares of all ties that come to each ties by stirring, a dict, told by a dict of shares."""
    sums = {ties: 0 for ties in shares}
    for ties, share in shares.items():
        for place in range(len(ties)):
            come = tied_at(ties, place)
            sums[come] = sums[come] + share
    return sums


def stirred(ties, ring_place):
    """Ties stirred at a place."""
    check_ties(ties)
    if not is_between(ring_place, 0, len(ties) - 1):
        raise InvalidPlace("this is no place of the ring")
    return tied_at(ties, ring_place)


def stirred_by(ties, word):
    """Ties behind all stirrings of a stir word."""
    check_ties(ties)
    if not are_places(word, len(ties)):
        raise InvalidWord("this is no stir word of so many pairs")
    come = ties
    for place in word:
        come = tied_at(come, place)
    return come


def stir_way(one_ties, other_ties):
    """A stir word, as short as can be, from the one to the other ties, of at most 6 pairs."""
    check_two_ties(one_ties, other_ties)
    check_at_most(len(one_ties) // 2, 6)
    newest = {one_ties: ()}
    known = {one_ties: ()}
    while other_ties not in known:
        newest = steps_behind(newest, known)
        for ties, way in newest.items():
            known[ties] = way
    return known[other_ties]


def stir_shares(pairs):
    """The shares of 1 to 5 pairs."""
    check_number(pairs, 1, 5)
    # The share of ties is the number of squares that have them.
    return tuple([many for ties, many in tie_counts(pairs)])


def shares_stay(pairs, value):
    """Whether any value is integers from 0 on, not all 0, one for each ties, that stay however one stirs."""
    check_number(pairs, 1, 5)
    every = list_ties(pairs)
    if not is_long(value, len(every)) or not all([is_integer(share) and share >= 0 for share in value]):
        return False
    shares = {ties: share for ties, share in zip(every, value)}
    sums = sums_by_stirring(shares)
    return max(value) > 0 and all([sums[ties] == 2 * pairs * share for ties, share in shares.items()])
