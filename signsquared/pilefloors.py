"""Tiles of piles on a six-sided floor, and turning three of them around a point."""

from signsquared.errors import InvalidTiles
from signsquared.helpers import check_point, is_long
from signsquared.piles import check_box, check_pile, columns_of, count_over, is_pile, is_triple


def tiles_told(pile, height):
    """The tiles of a pile in a box of this height."""
    tops = [(0, row - high, column - high) for row, line in enumerate(pile) for column, high in enumerate(line)]
    fronts = [
        (1, count_over(line, level) - level, column - level)
        for column, line in enumerate(columns_of(pile)) for level in range(height)
    ]
    sides = [
        (2, row - level, count_over(line, level) - level)
        for row, line in enumerate(pile) for level in range(height)
    ]
    return tuple(sorted(tops + fronts + sides))


def told_pile(box, tiles):
    """The rows that triples tell, a pile if these are its tiles; None if not each spot has one of the sort 0."""
    width, depth, height = box
    # On each falling line of spots the tops come one behind the other, as each integer is at most the one ahead.
    tops = [(top, aside) for sort, top, aside in tiles if sort == 0]
    told = {}
    for at in range(1 - depth, width):
        spots = [(row, row - at) for row in range(width) if 0 <= row - at < depth]
        here = [top for top, aside in tops if top - aside == at]
        if len(here) != len(spots):
            return None
        for spot, top in zip(spots, here):
            told[spot] = spot[0] - top
    return tuple([tuple([told[(row, column)] for column in range(depth)]) for row in range(width)])


def points_for(tiles, around):
    """The list of the points around which ascending tiles lie, told by those around the point (0, 0)."""
    held = {tile: True for tile in tiles}
    sort, down, aside = around[0]
    points = [(tile[1] - down, tile[2] - aside) for tile in tiles if tile[0] == sort]
    return [point for point in points if all([tile in held for tile in moved(around, point)])]


def moved(around, point):
    """Tiles around the point (0, 0), moved to lie around another one."""
    return [(sort, down + point[0], aside + point[1]) for sort, down, aside in around]


def tiles_up():
    """The tiles around the point (0, 0) if it is one of those told by `points_up`."""
    return [(0, 0, 0), (1, 0, 0), (2, 0, 0)]


def tiles_down():
    """The tiles around the point (0, 0) if it is one of those told by `points_down`."""
    return [(0, -1, -1), (1, 1, 0), (2, 0, 1)]


def tiles_of(box, pile):
    """The tiles of a pile."""
    check_pile(box, pile)
    return tiles_told(pile, box[2])


def is_laying(box, value):
    """Whether any value is a laying of the floor of a box."""
    check_box(box)
    width, depth, height = box
    if not is_long(value, width * depth + depth * height + height * width):
        return False
    if not all([is_triple(tile) for tile in value]):
        return False
    pile = told_pile(box, value)
    return is_pile(box, pile) and tiles_told(pile, height) == value


def pile_by_tiles(box, tiles):
    """The pile whose tiles these are."""
    if not is_laying(box, tiles):
        raise InvalidTiles("these are no tiles of a pile in the box")
    return told_pile(box, tiles)


def points_up(box, pile):
    """The ascending list of all points around which tiles lie that make way for a cube more."""
    return points_for(tiles_of(box, pile), tiles_up())


def points_down(box, pile):
    """The ascending list of all points around which the tiles of a cube lie that can be taken away."""
    return points_for(tiles_of(box, pile), tiles_down())


def tiles_turned(box, pile, point):
    """The tiles of a pile with the three around a point turned."""
    tiles, ups = tiles_of(box, pile), points_up(box, pile)
    check_point(point, ups + points_down(box, pile))
    old, new = (tiles_up(), tiles_down()) if point in ups else (tiles_down(), tiles_up())
    gone = moved(old, point)
    return tuple(sorted([tile for tile in tiles if tile not in gone] + moved(new, point)))
