"""Roads of piles, and roads that do not meet."""

from math import comb

from signsquared.errors import InvalidIndex, InvalidPoints, InvalidRoads, Unlike
from signsquared.helpers import determinant, is_between, is_long, length_between
from signsquared.piles import check_box, check_pile, is_pile

MOST_ROADS = 10
FURTHEST = 40


def row_road(row, height):
    """The road of a row of a pile in a box of this height."""
    ahead = (height,) + row
    falls_told = [one - other for one, other in zip(ahead, row)]
    return "".join(["d" * fall + "r" for fall in falls_told]) + "d" * ahead[-1]


def is_road(value, depth, height):
    """Whether any value is a road that leads so many steps to the right and down."""
    if not isinstance(value, str) or len(value) != depth + height:
        return False
    return value.count("r") == depth and value.count("d") == height


def road_row(road, height):
    """The row of a pile in a box of this height whose road this is."""
    return tuple([height - road[:at].count("d") for at, sign in enumerate(road) if sign == "r"])


def road_begin(box, row):
    """The point at which the road of a row begins."""
    width, depth, height = box
    return width - 1 - row, width - 1 - row + height


def road_end(box, row):
    """The point at which the road of a row ends."""
    width, depth, height = box
    return width - 1 - row + depth, width - 1 - row


def count_roads(start, end):
    """How many roads lead from a point to another one."""
    right, down = end[0] - start[0], start[1] - end[1]
    return comb(right + down, right) if min(right, down) >= 0 else 0


def are_apart(value):
    """Whether any value is 1 to 10 points, both integers of each greater than those of the point ahead."""
    if not length_between(value, 1, MOST_ROADS):
        return False
    if not all([is_long(point, 2) and all([is_between(at, 0, FURTHEST) for at in point]) for point in value]):
        return False
    return all([one[0] < other[0] and one[1] < other[1] for one, other in zip(value, value[1:])])


def check_points(value):
    """Raise InvalidPoints unless these are points where roads begin, or end."""
    if not are_apart(value):
        raise InvalidPoints("these are no such points")


def roads_of(box, pile):
    """The roads of a pile."""
    check_pile(box, pile)
    return tuple([row_road(row, box[2]) for row in pile])


def are_roads(box, value):
    """Whether any value is the roads of some pile in a box."""
    check_box(box)
    width, depth, height = box
    if not is_long(value, width) or not all([is_road(road, depth, height) for road in value]):
        return False
    return is_pile(box, tuple([road_row(road, height) for road in value]))


def pile_by_roads(box, roads):
    """The pile whose roads these are."""
    if not are_roads(box, roads):
        raise InvalidRoads("these are no roads of a pile in the box")
    return tuple([road_row(road, box[2]) for road in roads])


def road_points(box, pile, row):
    """The tuple of all points of the road of a row, in order."""
    check_pile(box, pile)
    if not is_between(row, 0, box[0] - 1):
        raise InvalidIndex("there is no such row")
    across, up = road_begin(box, row)
    points = [(across, up)]
    for sign in row_road(pile[row], box[2]):
        across, up = (across + 1, up) if sign == "r" else (across, up - 1)
        points.append((across, up))
    return tuple(points)


def count_apart(starts, ends):
    """How many tuples of roads lead from starts to ends, one by one, no two of which meet."""
    check_points(starts)
    check_points(ends)
    if len(starts) != len(ends):
        raise Unlike("these are not as many points")
    # Roads to ends in another order meet, and change places where they do, so the determinant counts the others.
    return determinant([[count_roads(start, end) for end in ends] for start in starts])


def road_table(box):
    """The table of how many roads there are from the begin of each row's road to the end of each row's road."""
    check_box(box)
    rows = range(box[0])
    return tuple([tuple([count_roads(road_begin(box, row), road_end(box, other)) for other in rows]) for row in rows])
