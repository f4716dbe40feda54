"""Full loops of the board, the ways from their ends, ties and rings."""

from signsquared.errors import InvalidEnd, InvalidLoops
from signsquared.helpers import are_ascending, check_sides, is_between, is_long
from signsquared.ice import ice_of, square_by_ice
from signsquared.squares import check_square


def board_links(sides):
    """The ascending list of all links of a board."""
    across = [("across", row, column) for row in range(sides) for column in range(sides + 1)]
    return across + [("down", row, column) for row in range(sides + 1) for column in range(sides)]


def links_out(sides):
    """The list of the links that lead out, as they are numbered."""
    top = [("down", 0, column) for column in range(sides)]
    right = [("across", row, sides) for row in range(sides)]
    bottom = [("down", sides, column) for column in reversed(range(sides))]
    return top + right + bottom + [("across", row, 0) for row in reversed(range(sides))]


def spots_at(link, sides):
    """The list of the spots of a link, one or two."""
    word, row, column = link
    ahead = (row, column - 1) if word == "across" else (row - 1, column)
    return [spot for spot in (ahead, (row, column)) if 0 <= min(spot) and max(spot) < sides]


def links_at_spots(sides, links):
    """A dict of the list of the links at each spot."""
    table = {(row, column): [] for row in range(sides) for column in range(sides)}
    for link in links:
        for spot in spots_at(link, sides):
            table[spot].append(link)
    return table


def parity_of(word):
    """What the integers ahead of a link, its row and its column, added, leave by 2 if full loops have it."""
    return 1 if word == "across" else 0


def has_link(link, edge):
    """Whether full loops have a link, told by what the integers ahead of it come to."""
    word, row, column = link
    return (edge + row + column) % 2 == parity_of(word)


def edge_at(link, held):
    """What the integers ahead of a link come to, told by all links that full loops have."""
    word, row, column = link
    missing = 0 if link in held else 1
    return (row + column + parity_of(word) + missing) % 2


def has_link_form(value, sides):
    """Whether any value is a link of a board."""
    if not is_long(value, 3) or not isinstance(value[0], str) or value[0] not in ("across", "down"):
        return False
    word, row, column = value
    if word == "across":
        return is_between(row, 0, sides - 1) and is_between(column, 0, sides)
    return is_between(row, 0, sides) and is_between(column, 0, sides - 1)


def next_link(pair, link):
    """The link of a spot's two that is not the one by which one comes."""
    return pair[1] if pair[0] == link else pair[0]


def walk(sides, table, link, start):
    """The pair of the spots on the way from a link to a spot and on, and of the last link.

    The way ends where it leads out, or where it comes back to the start.
    """
    way, spot, at = [start], start, next_link(table[start], link)
    while True:
        further = [some for some in spots_at(at, sides) if some != spot]
        if not further or further[0] == start:
            return way, at
        spot = further[0]
        way.append(spot)
        at = next_link(table[spot], at)


def loop_links(square):
    """The ascending list of the links of a square's full loops."""
    lying, standing = ice_of(square)
    return [
        (word, row, column) for word, row, column in board_links(len(square))
        if has_link((word, row, column), lying[row][column] if word == "across" else standing[row][column])
    ]


def end_walks(square):
    """The list of the walks from each end of a square's full loops."""
    sides = len(square)
    table = links_at_spots(sides, loop_links(square))
    return [walk(sides, table, link, spots_at(link, sides)[0]) for link in links_out(sides)[::2]]


def full_loops(square):
    """The full loops of a square."""
    check_square(square)
    return tuple(loop_links(square))


def are_full_loops(sides, value):
    """Whether any value is full loops of so many sides."""
    check_sides(sides)
    # Two links at each spot, and one at each end, come to just so many.
    if not is_long(value, sides * (sides + 1)) or not all([has_link_form(link, sides) for link in value]):
        return False
    if not are_ascending(value) or [link for link in links_out(sides) if link in value] != links_out(sides)[::2]:
        return False
    return all([len(links) == 2 for links in links_at_spots(sides, value).values()])


def square_by_loops(sides, links):
    """The square whose full loops these are."""
    if not are_full_loops(sides, links):
        raise InvalidLoops("this is no full loops of so many sides")
    held = {link: True for link in links}
    lying = [tuple([edge_at(("across", row, at), held) for at in range(sides + 1)]) for row in range(sides)]
    standing = [tuple([edge_at(("down", at, column), held) for column in range(sides)]) for at in range(sides + 1)]
    return square_by_ice((tuple(lying), tuple(standing)))


def ties_of(square):
    """The ties of a square."""
    check_square(square)
    ends = links_out(len(square))[::2]
    return tuple([ends.index(last) for way, last in end_walks(square)])


def way_from(square, end):
    """The tuple of all spots on the way from an end."""
    check_square(square)
    if not is_between(end, 0, 2 * len(square) - 1):
        raise InvalidEnd("this is no end of the full loops")
    return tuple(end_walks(square)[end][0])


def loop_rings(square):
    """The ascending list of the ascending tuples of the spots of all rings."""
    check_square(square)
    sides = len(square)
    table = links_at_spots(sides, loop_links(square))
    seen = {spot: True for way, last in end_walks(square) for spot in way}
    rings = []
    for spot in list(table):
        if spot not in seen:
            ring = walk(sides, table, table[spot][0], spot)[0]
            rings.append(tuple(sorted(ring)))
            for further in ring:
                seen[further] = True
    return rings
