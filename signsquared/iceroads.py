"""Ice roads: ways along the full edges of squares, and where they touch."""

from signsquared.errors import InvalidRoads
from signsquared.helpers import MOST_SIDES, check_at_most, check_count, check_sides, is_pair, length_between
from signsquared.ice import cell_sorts, is_ice, row_sorts, square_by_ice
from signsquared.squarelists import tally_squares


def road_from(sorts, start):
    """The ice road from a column, told by the sorts of the cells."""
    row, column, below, way = len(sorts) - 1, start, True, []
    while column < len(sorts):
        way.append((row, column))
        sort = sorts[row][column]
        # Where two roads touch, each turns away from the other one.
        below = sort in ("down", "minus") or (sort == "both" and not below)
        if below:
            row = row - 1
        else:
            column = column + 1
    return tuple(way)


def has_road_form(value, sides):
    """Whether any value is a tuple of pairs of integers, as many as a road of so many sides can have."""
    return length_between(value, 1, 2 * sides - 1) and all([is_pair(cell) for cell in value])


def edges_on(road, sides):
    """The list of the edges, ("lying" or "standing", row, column), along which what looks like a road goes."""
    edges = [("standing", sides, road[0][1]), ("lying", road[-1][0], sides)]
    for (row, column), further in zip(road, road[1:]):
        if further == (row, column + 1):
            edges.append(("lying", row, column + 1))
        else:
            edges.append(("standing", row, column))
    return edges


def edge_rows(full, word, rows, columns):
    """The table of 1 for each edge of a word that is among the full ones, and of 0 for the others."""
    return tuple([
        tuple([1 if (word, row, column) in full else 0 for column in range(columns)])
        for row in range(rows)
    ])


def ice_on(roads):
    """The pair of tables of edges that are full just where roads go."""
    sides = len(roads)
    full = {edge: True for road in roads for edge in edges_on(road, sides)}
    return edge_rows(full, "lying", sides, sides + 1), edge_rows(full, "standing", sides + 1, sides)


def square_on(value):
    """The square whose ice roads any value is, or None."""
    if not length_between(value, 1, MOST_SIDES) or not all([has_road_form(road, len(value)) for road in value]):
        return None
    # Whatever is no road leaves edges of no ice, or of an ice whose roads are others.
    ice = ice_on(value)
    if not is_ice(ice):
        return None
    square = square_by_ice(ice)
    return square if ice_roads(square) == value else None


def count_both(state, row):
    """How many cells of a row are of the sort "both", as a tuple of this number alone."""
    return (row_sorts(state, row).count("both"),)


def ice_roads(square):
    """The ice roads of a square."""
    sorts = cell_sorts(square)
    return tuple([road_from(sorts, column) for column in range(len(square))])


def are_ice_roads(value):
    """Whether any value is the ice roads of some square."""
    return square_on(value) is not None


def square_by_ice_roads(value):
    """The square whose ice roads these are."""
    square = square_on(value)
    if square is None:
        raise InvalidRoads("this is no ice roads of a square")
    return square


def touchings(square):
    """The ascending list of all cells in which two ice roads of a square touch."""
    sorts = cell_sorts(square)
    return [(row, column) for row, words in enumerate(sorts) for column, word in enumerate(words) if word == "both"]


def count_touching(sides, many):
    """How many squares of at most 6 sides have so many touchings."""
    check_sides(sides)
    check_count(many)
    check_at_most(sides, 6)
    return tally_squares(sides, (0,), count_both).get((many,), 0)
