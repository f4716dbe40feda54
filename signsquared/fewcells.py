"""Few cells and points by which a square is known, and papers of cells to ask for."""

from signsquared.factlists import check_facts, checked_layers, count_told, goes, layers_count, layers_squares
from signsquared.heights import height_table, inner_points
from signsquared.helpers import check_at_most, index_tuples, is_between, length_between
from signsquared.squarelists import squares
from signsquared.squares import check_square, is_square

MOST_ASKED = 8


def cells_of(sides):
    """The ascending list of all cells of so many sides."""
    return [(row, column) for row in range(sides) for column in range(sides)]


def first_telling(places, table, others):
    """The first ascending tuple of as few places as can be of which at least one differs in each other table."""
    unlike = [[table[row][column] != other[row][column] for row, column in places] for other in others]
    for size in range(len(places) + 1):
        for chosen in index_tuples(len(places), size):
            if all([any([differs[at] for at in chosen]) for differs in unlike]):
                return tuple([places[at] for at in chosen])
    return None


def fewest_cells(square):
    """The first tuple of as few cells as can be by which a square of at most 4 sides is known."""
    check_square(square)
    check_at_most(len(square), 4)
    others = [other for other in squares(len(square)) if other != square]
    return first_telling(cells_of(len(square)), square, others)


def fewest_points(square):
    """The first tuple of as few inner points as can be by whose heights a square of at most 4 sides is known."""
    check_square(square)
    check_at_most(len(square), 4)
    others = [height_table(other) for other in squares(len(square)) if other != square]
    return first_telling(inner_points(len(square)), height_table(square), others)


def few_told(sides, facts):
    """The list of the squares of at most 8 sides that go with facts, if they are at most 8."""
    layers = checked_layers(sides, facts, 8)
    check_at_most(layers_count(layers), MOST_ASKED)
    return layers_squares(layers)


def lot_with(some, cell, sign):
    """The sum of a bit for each index of those of some squares that have a sign in a cell."""
    row, column = cell
    return sum([1 << index for index, square in enumerate(some) if square[row][column] == sign])


def cell_lots(some):
    """For each cell the list of the lots of those of some squares that have -1, 0 and 1 there, a dict."""
    sides = len(some[0]) if some else 0
    return {cell: [lot_with(some, cell, sign) for sign in (-1, 0, 1)] for cell in cells_of(sides)}


def best_question(lot, lots, known):
    """The pair of the least length of a paper for a lot of squares, and of a cell to ask first, or None for none.

    `known` holds what is known of lots.
    """
    if lot not in known:
        best = (0, None)
        if lot & (lot - 1) != 0:
            best = min([
                (1 + max([best_question(lot & part, lots, known)[0] for part in parts]), cell)
                for cell, parts in lots.items() if lot not in [lot & part for part in parts]
            ])
        known[lot] = best
    return known[lot]


def written_paper(lot, some, lots, known):
    """A cell paper of the least length for a lot of some squares."""
    if lot == 0:
        return ("none",)
    if lot & (lot - 1) == 0:
        return ("told", some[lot.bit_length() - 1])
    cell = best_question(lot, lots, known)[1]
    papers = [written_paper(lot & part, some, lots, known) for part in lots[cell]]
    return ("ask",) + cell + tuple(papers)


def whole_lot(some):
    """The lot of all of some squares."""
    return (1 << len(some)) - 1


def cell_questions(sides, facts):
    """The least length of a cell paper for facts."""
    some = few_told(sides, facts)
    return best_question(whole_lot(some), cell_lots(some), {})[0]


def next_cell(sides, facts):
    """A cell that a cell paper of the least length for facts can ask first, or None."""
    some = few_told(sides, facts)
    return best_question(whole_lot(some), cell_lots(some), {})[1]


def cell_paper(sides, facts):
    """A cell paper of the least length for facts."""
    some = few_told(sides, facts)
    return written_paper(whole_lot(some), some, cell_lots(some), {})


def count_papered(sides, facts, value):
    """How many ends of a tree of questions tell a square that goes with the facts and with what leads there.

    None, if an end tells another square, or anything but a square, or if it is no such tree.
    """
    if not length_between(value, 1, 6):
        return None
    if value[0] == "none":
        return 0 if len(value) == 1 else None
    if value[0] == "told":
        return 1 if len(value) == 2 and is_told(sides, facts, value[1]) else None
    if value[0] != "ask" or len(value) != 6 or not all([is_between(at, 0, sides - 1) for at in value[1:3]]):
        return None
    total = 0
    for sign, paper in zip((-1, 0, 1), value[3:]):
        many = count_papered(sides, facts + (("cell", value[1], value[2], sign),), paper)
        if many is None:
            return None
        total = total + many
    return total


def is_told(sides, facts, value):
    """Whether any value is a square of so many sides that goes with facts."""
    return is_square(value) and len(value) == sides and goes(value, facts)


def is_cell_paper(sides, facts, value):
    """Whether any value is a cell paper for facts of at most 8 sides."""
    check_facts(sides, facts)
    check_at_most(sides, 8)
    # No two ends tell the same square, as their ways part at a cell; so all is well just if they tell all of them.
    return count_papered(sides, facts, value) == count_told(sides, facts)
