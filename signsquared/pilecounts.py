"""How many piles there are in a box, and how many of them are like themselves."""

from signsquared.helpers import check_at_most, multiplied
from signsquared.piles import check_box, check_likeness

MOST_WIDE = 40
MOST_LISTED = 18


def product_of(factors):
    """The product of fractions, which comes to an integer."""
    return multiplied([top for top, below in factors]) // multiplied([below for top, below in factors])


def all_piles(width, depth, height):
    """How many piles there are, also if a side is 0."""
    # Of the product over the cells of the box, all but the ends cancel out over each spot.
    return product_of([
        (row + column + height + 1, row + column + 1) for row in range(width) for column in range(depth)
    ])


def tipped_piles(width, height):
    """How many piles are like themselves by "tipped", with as many rows as columns."""
    # A cell and the one it comes to by tipping count once, together.
    return product_of([
        (row + column + height + 1, row + column + 1) for row in range(width) for column in range(row, width)
    ])


def turned_piles(side):
    """How many piles are like themselves by "turned", in a box of three such sides."""
    # The three cells that come of one another by turning count once; those alike in all three are on their own.
    alone = [(3 * at + 2, 3 * at + 1) for at in range(side)]
    return product_of(alone + [
        (low + high + side + 1, 2 * low + high + 1) for high in range(side) for low in range(high)
    ])


def filled_piles(wide):
    """How many piles are like themselves by "filled"."""
    odd = [side for side in wide if side & 1]
    if len(odd) == 3:
        return 0
    # They are as many as piles in two boxes of half the sides: the one has the greater half of one odd side, and the
    # other one that of another one, if there is one.
    first, second, third = [side for side in wide if not side & 1] + odd
    one = all_piles(first // 2, second // 2, (third + 1) // 2)
    return one * all_piles(first // 2, (second + 1) // 2, third // 2)


def rows_under(caps):
    """The ascending list of all rows that do not rise, with integers of at most the caps."""
    rows = [()]
    for cap in caps:
        rows = [row + (high,) for row in rows for high in range(min((cap,) + row[-1:]) + 1)]
    return rows


def list_piles(box):
    """The ascending list of all piles in a box."""
    width, depth, height = box
    begun = [()]
    for _ in range(width):
        begun = [rows + (row,) for rows in begun for row in rows_under(rows[-1] if rows else (height,) * depth)]
    return begun


def count_piles(wide):
    """How many piles there are in a box of sides up to 40."""
    check_box(wide, MOST_WIDE)
    return all_piles(wide[0], wide[1], wide[2])


def count_like_piles(wide, word):
    """How many piles in a box of sides up to 40 are like themselves by a word."""
    check_box(wide, MOST_WIDE)
    check_likeness(word)
    width, depth, height = wide
    if word == "filled":
        return filled_piles(wide)
    if width != depth:
        return 0
    if word == "tipped":
        return tipped_piles(width, height)
    return turned_piles(width) if depth == height else 0


def piles(box):
    """The ascending list of all piles in a box of at most 18 triples."""
    check_box(box)
    check_at_most(multiplied(box), MOST_LISTED)
    return list_piles(box)


def count_by_cubes(box):
    """The tuple of how many piles in a box of at most 18 triples have no cube, one, and so on."""
    sums = [sum([sum(row) for row in pile]) for pile in piles(box)]
    return tuple([sums.count(many) for many in range(multiplied(box) + 1)])
