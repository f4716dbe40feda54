"""The rings that two ties make, and the determinants of their tables."""

from signsquared.helpers import check_number, determinant, power
from signsquared.ringties import list_ties
from signsquared.stirring import check_two_ties


def ring_at(one_ties, other_ties, start):
    """The list of the places of the ring of two ties on which a place is."""
    ring, place = [], start
    while place not in ring:
        further = one_ties[place]
        ring = ring + [place, further]
        place = other_ties[further]
    return ring


def count_rings(one_ties, other_ties):
    """How many rings two ties of as many pairs make."""
    seen, many = {}, 0
    for start in range(len(one_ties)):
        if start not in seen:
            many = many + 1
            for place in ring_at(one_ties, other_ties, start):
                seen[place] = True
    return many


def rings_between(one_ties, other_ties):
    """How many rings two ties make."""
    check_two_ties(one_ties, other_ties)
    return count_rings(one_ties, other_ties)


def ring_counts(pairs):
    """The tuple of in how many ways two ties of 1 to 5 pairs make 0 rings, 1 and so on."""
    check_number(pairs, 1, 5)
    every = list_ties(pairs)
    rings = [count_rings(one_ties, other_ties) for one_ties in every for other_ties in every]
    return tuple([rings.count(many) for many in range(pairs + 1)])


def ring_determinant(pairs, number):
    """The determinant of the table of a number to the powers of the rings of each two ties."""
    check_number(pairs, 1, 5)
    check_number(number, -1000, 1000)
    every = list_ties(pairs)
    powers = [power(number, rings) for rings in range(pairs + 1)]
    return determinant([
        [powers[count_rings(one_ties, other_ties)] for other_ties in every]
        for one_ties in every
    ])
