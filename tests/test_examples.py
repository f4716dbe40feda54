"""The examples of the document, as they stand, run as doctests."""

import doctest
import importlib
import pathlib
import unittest

MODULES = (
    "squares",
    "squarelists",
    "heights",
    "triangles",
    "below",
    "keys",
    "ice",
    "iceroads",
    "icesums",
    "icelines",
    "fullloops",
    "loopturns",
    "ringties",
    "tiecounts",
    "stirring",
    "meanders",
    "floors",
    "couples",
    "blocks",
    "shuffles",
    "condensing",
    "piles",
    "pileroads",
    "pilefloors",
    "pilecounts",
    "fullpiles",
    "signspreads",
    "signsums",
    "factlists",
    "sures",
    "fewcells",
    "bounded",
    "likemoves",
    "likelists",
    "likecounts",
    "likenear",
    "notes",
    "toggles",
    "lifesteps",
    "lifetexts",
    "lifevalues",
    "lifebenches",
)

MEANT = """
>>> X = ((0, 1, 0), (1, -1, 1), (0, 1, 0))
>>> P = ((0, 1, 0), (0, 0, 1), (1, 0, 0))
>>> U = ((1, 0, 0), (0, 1, 0), (0, 0, 1))
>>> L = ((0, 0, 1), (0, 1, 0), (1, 0, 0))
>>> Q = ((0, 1, 0, 0), (1, -1, 0, 1), (0, 0, 1, 0), (0, 1, 0, 0))
>>> T, S = (("cell", 0, 1, 1),), (("cell", 1, 1, -1),)
>>> D = ((1, 0), (0, 1))
>>> N = (((1, 1), (2, 1), (1, 1)), ((2, 1), (3, 1), (2, 1)), ((1, 1), (2, 1), (1, 1)))
>>> W, C = (D, N, (1, 1)), (("toggle", (1, 1)), ("scale", (1, 2)), ("mirror",))
"""

EXAMPLES = {
    "squares": r"""
>>> [is_square(X), is_square(((1, -1, 1), (0, 1, 0), (0, 1, 0))), is_square(((0, 1), (1,))), is_square(()), is_square([[1]]), order_square((1, 2, 0)) == P, square_order(P), square_order(X), unit_square(3) == U, last_square(3) == L]
[True, False, False, False, False, True, (1, 2, 0), None, True, True]
>>> [minuses(X), minuses(P), [overtakings(some) for some in (U, X, P, L, Q)], first_column(Q)]
[[(1, 1)], [], [0, 2, 2, 3, 4], 1]
>>> [tipped(P) == order_square((2, 0, 1)), tipped(X) == X, mirrored(U) == L, upended(U) == L, mirrored(X) == X, square_order(upended(P)), tipped(Q)]
[True, True, True, True, True, (0, 2, 1), ((0, 1, 0, 0), (1, -1, 0, 1), (0, 0, 1, 0), (0, 1, 0, 0))]
""",
    "squarelists": r"""
>>> [squares(2), len(squares(3)), squares(3)[3] == X, square_number(X), square_number(U), square_with(3, 2) == P, [count_squares(sides) for sides in (1, 2, 3, 4, 5, 6)], [count_first(4, column) for column in (0, 1, 2, 3)], square_with(1, 0)]
[[((0, 1), (1, 0)), ((1, 0), (0, 1))], 7, True, 3, 6, True, [1, 2, 7, 42, 429, 7436], [7, 14, 14, 7], ((1,),)]
""",
    "heights": r"""
>>> [heights(X), is_heights(((0, 1), (1, 0))), is_heights(((0, 1, 2), (1, 1, 1), (2, 1, 0))), square_by_heights(((0, 1), (1, 0))), hollows(X), hills(X), square_order(raised(X, (1, 2))), square_order(lowered(X, (1, 1)))]
[((0, 1, 2, 3), (1, 2, 1, 2), (2, 1, 2, 1), (3, 2, 1, 0)), True, False, ((1,),), [(1, 2), (2, 1)], [(1, 1), (2, 2)], (2, 0, 1), (0, 2, 1)]
>>> [[rise(some) for some in (U, X, P, L, Q)], hollows(U), hills(U), hills(L)]
[[0, 2, 3, 4, 5], [(1, 1), (2, 2)], [], [(1, 2), (2, 1)]]
""",
    "triangles": r"""
>>> [triangle(X), triangle(P), is_triangle(((1,), (0, 2), (0, 1, 2))), is_triangle(((0,), (1, 2), (0, 1, 2))), is_triangle(((0,), (0, 2))), is_triangle(()), square_by_triangle(((1,), (0, 2), (0, 1, 2))) == X]
[((1,), (0, 2), (0, 1, 2)), ((1,), (1, 2), (0, 1, 2)), True, False, False, False, True]
""",
    "below": r"""
>>> [is_below(U, X), is_below(X, P), is_below(P, X), below_paper(P, X), below_paper(X, P), square_order(meet(P, X)), meet(P, order_square((2, 0, 1))) == X, join(order_square((0, 2, 1)), order_square((1, 0, 2))) == X, join(P, order_square((2, 0, 1))) == L]
[True, True, False, (2, 1), None, None, True, True, True]
>>> [way_up(X, P), way_up(P, X), len(way_up(U, L)), len(squares_between(U, L)), count_ways_up(U, L), count_ways_up(X, X), count_ways_up(L, U)]
[((2, 1),), None, 4, 7, 4, 1, 0]
""",
    "keys": r"""
>>> [keys(3), len(keys(5)), key_with(3, (1, 1), 2), key_with(3, (2, 1), 3), keys_below(X), keys_below(U), joined_orders(((0, 2, 1), (1, 0, 2))) == X, orders_under(X), orders_over(X), orders_under(P)]
[[(0, 2, 1), (1, 0, 2), (1, 2, 0), (2, 0, 1)], 20, (1, 0, 2), (1, 2, 0), [(0, 2, 1), (1, 0, 2)], [], True, [(0, 2, 1), (1, 0, 2)], [(1, 2, 0), (2, 0, 1)], [(1, 2, 0)]]
""",
    "ice": r"""
>>> [ice_of(X), is_ice(ice_of(P)), is_ice(((), ((),))), square_by_ice((((0, 1),), ((0,), (1,)))), cell_sorts(X), sort_counts(X), sort_counts(U), sort_counts(L), square_by_sorts((("one",),)), square_by_sorts(cell_sorts(Q)) == Q]
[(((0, 0, 1, 1), (0, 1, 0, 1), (0, 0, 1, 1)), ((0, 0, 0), (0, 1, 0), (1, 0, 1), (1, 1, 1))), True, False, ((1,),), (('none', 'one', 'across'), ('one', 'minus', 'one'), ('down', 'one', 'both')), (1, 1, 1, 1, 4, 1), (0, 0, 3, 3, 3, 0), (3, 3, 0, 0, 3, 0), ((1,),), True]
>>> [ice_points(ice_of(X)), ice_points(ice_of(U)), ice_turned(ice_of(U), (1, 1)) == ice_of(order_square((1, 0, 2))), ice_turned(ice_of(X), (1, 2)) == ice_of(raised(X, (1, 2)))]
[[(1, 1), (1, 2), (2, 1), (2, 2)], [(1, 1), (2, 2)], True, True]
""",
    "iceroads": r"""
>>> [ice_roads(X), ice_roads(U), touchings(X), touchings(U), touchings(L), [count_touching(3, many) for many in (0, 1, 2, 3, 4)]]
[(((2, 0), (1, 0), (1, 1), (0, 1), (0, 2)), ((2, 1), (2, 2), (1, 2)), ((2, 2),)), (((2, 0), (1, 0), (0, 0), (0, 1), (0, 2)), ((2, 1), (1, 1), (1, 2)), ((2, 2),)), [(2, 2)], [], [(1, 2), (2, 1), (2, 2)], [1, 3, 2, 1, 0]]
>>> [are_ice_roads((((0, 0),),)), are_ice_roads(()), square_by_ice_roads((((1, 0), (0, 0), (0, 1)), ((1, 1),))), square_by_ice_roads(ice_roads(Q)) == Q]
[True, False, ((1, 0), (0, 1)), True]
""",
    "icesums": r"""
>>> [[ice_counts(some) for some in (U, X, P, L)], ice_terms(2), ice_terms(3), ice_sum(3, (1, 1, 1)), ice_sum(3, (3, 4, 5)) == 5 ** 9, ice_sum(1, (7, 8, 9)), ice_sum(4, (0, 1, 1)), ice_sum(6, (1, 1, 1))]
[[(0, 6, 3), (2, 2, 5), (4, 2, 3), (6, 0, 3)], [((0, 2, 2), 1), ((2, 0, 2), 1)], [((0, 6, 3), 1), ((2, 2, 5), 1), ((2, 4, 3), 2), ((4, 2, 3), 2), ((6, 0, 3), 1)], 7, True, 9, 1, 7436]
""",
    "icelines": r"""
>>> [line_weight(X, (1, 2, 3), (0, 0, 0), 1), line_sum((1, 2), (0, 5), 1), line_sum((2, 1), (0, 5), 1), line_quotient((1, 2), (0, 5), 1), line_sum((0, 0, 0), (0, 0, 0), 1), line_sum((1, 1, 1), (0, 0, 0), 1), line_sum((4,), (9,), 7), line_quotient((4,), (9,), 7)]
[24, -12, -12, -12, 1, 109, 7, 7]
>>> [line_quotient((1, 2, 3), (0, 5, 7), 2) == line_sum((3, 1, 2), (7, 0, 5), 2), line_quotient((1, 2, 3), (0, 5, 7), 0)]
[True, 0]
""",
    "fullloops": r"""
>>> [full_loops(((1,),)), full_loops(X), are_full_loops(3, full_loops(X)), are_full_loops(3, full_loops(X)[1:]), are_full_loops(2, ()), square_by_loops(3, full_loops(P)) == P]
[(('down', 0, 0), ('down', 1, 0)), (('across', 0, 1), ('across', 0, 2), ('across', 1, 0), ('across', 1, 1), ('across', 1, 2), ('across', 1, 3), ('across', 2, 1), ('across', 2, 2), ('down', 0, 0), ('down', 0, 2), ('down', 3, 0), ('down', 3, 2)), True, False, False, True]
>>> [[ties_of(some) for some in (U, X, P, L)], ties_of(((1,),)), way_from(U, 1), way_from(X, 0), loop_rings(X), loop_rings(U)]
[[(5, 4, 3, 2, 1, 0), (1, 0, 5, 4, 3, 2), (1, 0, 3, 2, 5, 4), (3, 2, 1, 0, 5, 4)], (1, 0), ((0, 2), (0, 1), (1, 1), (2, 1), (2, 0)), ((0, 0), (0, 1), (0, 2)), [], []]
""",
    "loopturns": r"""
>>> [turnable_faces(U), turnable_faces(X), face_turned(X, (1, 0)) == P, colour_turned(U, 0) == X, colour_turned(U, 1) == U, led_round(U, 1) == L, led_round(L, -1) == U, led_round(X, 0) == X, [round_size(some) for some in (U, L, ((1,),))]]
[[(0, 0), (1, 1)], [(0, 0), (0, 1), (1, 0), (1, 1)], True, True, True, True, True, True, [3, 3, 1]]
""",
    "ringties": r"""
>>> [is_ties((1, 0, 5, 4, 3, 2)), is_ties((2, 3, 0, 1)), is_ties((0, 1)), is_ties(()), ties_pairs((5, 2, 1, 4, 3, 0)), ties_by_pairs(((0, 3), (1, 2))), ties_turned((5, 4, 3, 2, 1, 0), -1), ties_turned((1, 0), 7), ties_mirrored((1, 0, 5, 4, 3, 2)), all_ties(2), len(all_ties(5)), count_ties(12)]
[True, False, False, False, ((0, 5), (1, 2), (3, 4)), (3, 2, 1, 0), (3, 2, 1, 0, 5, 4), (1, 0), (3, 2, 1, 0, 5, 4), [(1, 0, 3, 2), (3, 2, 1, 0)], 42, 208012]
""",
    "tiecounts": r"""
>>> [squares_tied((1, 0, 5, 4, 3, 2)) == [X], count_tied((1, 0, 3, 2, 5, 4)), tie_counts(2), tie_counts(3)]
[True, 2, [((1, 0, 3, 2), 1), ((3, 2, 1, 0), 1)], [((1, 0, 3, 2, 5, 4), 2), ((1, 0, 5, 4, 3, 2), 1), ((3, 2, 1, 0, 5, 4), 1), ((5, 2, 1, 4, 3, 0), 2), ((5, 4, 3, 2, 1, 0), 1)]]
""",
    "stirring": r"""
>>> [stirred((5, 4, 3, 2, 1, 0), 0), stirred((5, 4, 3, 2, 1, 0), 5), stirred((1, 0, 3, 2), 1), stirred_by((1, 0, 3, 2), (1, 0, 3)), stir_way((1, 0, 3, 2), (1, 0, 3, 2)), stir_way((1, 0), (1, 0)), len(stir_way((5, 4, 3, 2, 1, 0), (1, 0, 5, 4, 3, 2)))]
[(1, 0, 3, 2, 5, 4), (5, 4, 3, 2, 1, 0), (3, 2, 1, 0), (3, 2, 1, 0), (), (), 2]
>>> [stir_shares(1), stir_shares(2), stir_shares(3), sum(stir_shares(4)), max(stir_shares(4)), shares_stay(2, (3, 3)), shares_stay(3, (1, 1, 1, 1, 1)), shares_stay(2, (0, 0))]
[(1,), (1, 1), (2, 1, 1, 2, 1), 42, 7, True, False, False]
""",
    "meanders": r"""
>>> A, B, E = (1, 0, 3, 2, 5, 4), (5, 4, 3, 2, 1, 0), (5, 2, 1, 4, 3, 0)
>>> [rings_between(A, A), rings_between(A, B), rings_between(A, E), ring_counts(2), ring_counts(3), ring_counts(4), ring_determinant(1, 7), ring_determinant(2, 2), ring_determinant(3, 2), ring_determinant(3, 1)]
[3, 2, 1, (0, 2, 2), (0, 8, 12, 5), (0, 42, 84, 56, 14), 7, 12, 5184, 0]
""",
    "floors": r"""
>>> [floor_cells(1), len(floor_cells(4)), is_floor_laying(1, (((0, 0), (0, 1)), ((1, 0), (1, 1)))), is_floor_laying(1, (((0, 0), (1, 1)),)), upright_laying(2), len(floor_layings(2)), floor_layings(1)]
[[(0, 0), (0, 1), (1, 0), (1, 1)], 40, True, False, (((0, 1), (1, 1)), ((0, 2), (1, 2)), ((1, 0), (2, 0)), ((1, 3), (2, 3)), ((2, 1), (3, 1)), ((2, 2), (3, 2))), 8, [(((0, 0), (0, 1)), ((1, 0), (1, 1))), (((0, 0), (1, 0)), ((0, 1), (1, 1)))]]
""",
    "couples": r"""
>>> [do_fit(unit_square(2), U), do_fit(unit_square(2), L), do_fit(U, U), floor_laying(unit_square(2), U) == upright_laying(2), floor_couple(1, (((0, 0), (0, 1)), ((1, 0), (1, 1)))), [square_order(some) for some in greats_around(unit_square(2))], [square_order(some) for some in smalls_within(X)], smalls_within(L) == [last_square(2)]]
[True, False, False, True, (((1,),), ((0, 1), (1, 0))), [None, (1, 0, 2), (0, 2, 1), (0, 1, 2)], [(1, 0), (0, 1)], True]
""",
    "blocks": r"""
>>> V = upright_laying(2)
>>> [turn_blocks(2, V), laying_rise(2, V), floor_couple(2, block_turned(2, V, (0, 1)))[1] == order_square((1, 0, 2)), laying_rise(2, floor_laying(last_square(2), L)), laying_meet(2, V, floor_laying(last_square(2), L)) == V, len(turns_between(2, V, floor_laying(last_square(2), L))), turns_between(1, floor_layings(1)[1], floor_layings(1)[0])]
[[(0, 1), (2, 1)], 0, True, 5, True, 5, ((0, 0),)]
""",
    "shuffles": r"""
>>> V = upright_laying(2)
>>> [slid_dominoes(1, floor_layings(1)[1]), slid_dominoes(1, floor_layings(1)[0]), grown_laying(1, floor_layings(1)[1], (0, 0)) == V, floor_couple(2, grown_laying(1, floor_layings(1)[1], (1, 1)))[1] == X, growth_signs(2, V), shrunk_laying(2, V, ()) == upright_laying(1)]
[(((1, 0), (2, 0)), ((1, 3), (2, 3))), (((0, 1), (0, 2)), ((3, 1), (3, 2))), True, True, (0, 0), True]
""",
    "condensing": r"""
>>> [[count_floor(size) for size in (1, 2, 3, 4)], [count_flat(2, many) for many in (0, 1, 2, 4, 6, 8)], rise_counts(1), rise_counts(2), condensed(((1, 2), (3, 4)), 1), condensed(((1, 1, 1), (1, 2, 1), (1, 1, 1)), 1), condensed(((1, 1, 1), (1, 4, 1), (1, 1, 1)), 1), condensed(((7,),), 5), share_sum(3, 2), share_sum(1, 9)]
[[2, 8, 64, 1024], [1, 0, 3, 3, 1, 0], (1, 1), (1, 2, 1, 1, 2, 1), (10, 1), (9, 1), (25, 2), (7, 1), 27, 1]
""",
    "piles": r"""
>>> K, J = ((2, 1), (1, 0)), ((2, 2, 0), (1, 0, 0))
>>> [is_pile((2, 2, 2), K), is_pile((2, 2, 1), K), is_pile((2, 2, 2), ((1, 2), (0, 0))), cubes_of((2, 2, 2), K), pile_with((2, 2, 2), [(0, 0, 1), (0, 0, 0)]), pile_turned((2, 3, 2), J), pile_tipped((2, 3, 2), J), pile_filled((2, 3, 2), J)]
[True, False, False, [(0, 0, 0), (0, 0, 1), (0, 1, 0), (1, 0, 0)], ((2, 0), (0, 0)), ((2, 1), (1, 1), (0, 0)), ((2, 1), (2, 0), (0, 0)), ((2, 2, 1), (2, 0, 0))]
>>> [is_like_pile((2, 2, 2), K, "turned"), is_like_pile((2, 2, 2), K, "tipped"), is_like_pile((2, 2, 2), K, "filled"), is_like_pile((2, 3, 2), J, "turned"), is_like_pile((2, 3, 2), J, "filled")]
[True, True, True, False, False]
>>> J = ((2, 2, 0), (1, 0, 0))
>>> [spots_on((2, 3, 2), J), spots_off((2, 3, 2), J), cube_on((2, 3, 2), J, (0, 2)), cube_off((2, 3, 2), J, (0, 1)), least_turns((2, 3, 2), J, ((1, 1, 1), (1, 1, 1))), spots_on((1, 1, 1), ((1,),)), spots_off((1, 1, 1), ((1,),))]
[[(0, 2), (1, 0), (1, 1)], [(0, 1), (1, 0)], ((2, 2, 1), (1, 0, 0)), ((2, 1, 0), (1, 0, 0)), 5, [], [(0, 0)]]
""",
    "pileroads": r"""
>>> J = ((2, 2, 0), (1, 0, 0))
>>> [roads_of((2, 3, 2), J), are_roads((2, 3, 2), ("rrddr", "drdrr")), are_roads((2, 3, 2), ("drdrr", "rrddr")), are_roads((1, 1, 1), ("rr",)), pile_by_roads((2, 3, 2), ("rrddr", "drdrr")) == J, road_points((2, 3, 2), J, 1)]
[('rrddr', 'drdrr'), True, False, False, True, ((0, 2), (0, 1), (1, 1), (1, 0), (2, 0), (3, 0))]
>>> [count_apart(((0, 2),), ((2, 0),)), count_apart(((0, 2), (1, 3)), ((3, 0), (4, 1))), count_apart(((0, 0),), ((0, 1),)), count_apart(((0, 1), (1, 2)), ((0, 1), (1, 2))), road_table((2, 3, 2)), road_table((1, 1, 1))]
[6, 50, 0, 1, ((10, 10), (5, 10)), ((2,),)]
""",
    "pilefloors": r"""
>>> K = ((2, 1), (1, 0))
>>> [tiles_of((1, 1, 1), ((0,),)), tiles_of((1, 1, 1), ((1,),)), is_laying((1, 1, 1), ((0, 0, 0), (1, 0, 0), (2, 0, 1))), pile_by_tiles((1, 1, 1), ((0, -1, -1), (1, 1, 0), (2, 0, 1))), tiles_of((2, 2, 2), K)[:4], pile_by_tiles((2, 2, 2), tiles_of((2, 2, 2), K)) == K]
[((0, 0, 0), (1, 0, 0), (2, 0, 0)), ((0, -1, -1), (1, 1, 0), (2, 0, 1)), False, ((1,),), ((0, -2, -2), (0, -1, 0), (0, 0, -1), (0, 1, 1)), True]
>>> K = ((2, 1), (1, 0))
>>> [points_up((1, 1, 1), ((0,),)), points_down((1, 1, 1), ((0,),)), tiles_turned((1, 1, 1), ((0,),), (0, 0)), points_up((2, 2, 2), K), points_down((2, 2, 2), K)]
[[(0, 0)], [], ((0, -1, -1), (1, 1, 0), (2, 0, 1)), [(-1, 0), (0, -1), (1, 1)], [(-1, -1), (0, 1), (1, 0)]]
""",
    "pilecounts": r"""
>>> [count_piles((1, 1, 1)), count_piles((2, 2, 2)), count_piles((2, 3, 2)), count_piles((3, 3, 3)), count_piles((5, 5, 5)), piles((1, 2, 1)), count_by_cubes((2, 2, 1)), count_by_cubes((2, 2, 2))]
[2, 20, 50, 980, 267227532, [((0, 0),), ((1, 0),), ((1, 1),)], (1, 1, 2, 1, 1), (1, 1, 3, 3, 4, 3, 3, 1, 1)]
>>> [count_like_piles((2, 2, 2), "turned"), count_like_piles((3, 3, 3), "turned"), count_like_piles((2, 2, 2), "tipped"), count_like_piles((2, 2, 2), "filled"), count_like_piles((2, 3, 2), "filled"), count_like_piles((1, 1, 1), "filled"), count_like_piles((2, 3, 2), "tipped"), count_like_piles((1, 2, 2), "turned")]
[5, 20, 10, 4, 6, 0, 0, 0]
""",
    "fullpiles": r"""
>>> K = ((2, 1), (1, 0))
>>> [is_full(1, K), is_full(1, ((2, 2), (0, 0))), full_piles(1), len(full_piles(2)), len(full_piles(3)), corner_of(1, K), full_by_corner(1, ((0,),)) == K, [count_full(number) for number in (1, 2, 3, 4, 5)], [corner_of(2, pile) for pile in full_piles(2)]]
[True, False, [((2, 1), (1, 0))], 2, 7, ((0,),), True, [1, 2, 7, 42, 429], [((0, 0), (0, 0)), ((1, 0), (0, 0))]]
""",
    "signspreads": r"""
>>> [minus_spread(1), minus_spread(3), minus_spread(4), overtaking_spread(3), spread_table(3), first_minus_table(3), ends_table(2), ends_table(3), count_ends(3, 0, 0), count_ends(1, 0, 0)]
[(1,), (6, 1), (24, 16, 2), (1, 2, 3, 1), ((1, 2, 2, 1), (0, 0, 1, 0)), ((2, 0), (2, 1), (2, 0)), ((0, 1), (1, 0)), ((0, 1, 1), (1, 1, 1), (1, 1, 0)), 0, 1]
>>> [[most_minuses(sides) for sides in (1, 2, 3, 4, 5, 6)], [count_one_minus(sides) for sides in (1, 2, 3, 4, 5)], most_minuses(10 ** 30) == 25 * 10 ** 58 - 5 * 10 ** 29]
[[0, 0, 1, 2, 4, 6], [0, 0, 1, 16, 200], True]
""",
    "signsums": r"""
>>> [sum_by(3, 2), sum_by(4, 3), sum_by(4, 0), sum_by(4, -1), sum_by(6, 1), sum_by(40, 2) == 2 ** 60 * 2 ** 60 * sum_by(36, 2) * 2 ** 30, twos_first(3, 1), twos_first(4, 0), sum_by_two(3, 2, 3), sum_by_two(3, 0, 5)]
[8, 90, 24, 10, 7436, True, 4, 8, 33, 1]
>>> [twos_rest(3, 5), twos_rest(10 ** 30, 7), [is_count_odd(sides) for sides in (1, 2, 3, 4, 5, 6)], is_count_odd((2 ** 64 - 1) // 3), [count_power(4, prime) for prime in (2, 5, 7)], count_power(6, 13)]
[3, 1, [True, False, True, False, True, False], True, [1, 0, 1], 2]
""",
    "factlists": r"""
>>> [are_facts(3, T), are_facts(3, (("cell", 0, 3, 1),)), are_facts(3, (("down", 3, 2, 1), ("most", 3, 3, 0))), are_facts(2, [T[0]]), goes_with(X, T + S), goes_with(U, T), goes_with(Q, (("corner", 2, 2, 1), ("along", 1, 2, 0), ("least", 1, 1, 2)))]
[True, False, True, False, True, False, True]
>>> [[count_told(3, facts) for facts in ((), T, S, (("corner", 2, 2, 1),), (("along", 1, 1, 1),), (("down", 1, 1, 1),))], count_told(8, ()), first_told(3, T) == P, square_order(last_told(3, T)), told_with(3, T, 1) == X, len(squares_told(3, (("cell", 1, 1, 0),))), first_told(2, T + (("cell", 0, 0, 1),))]
[[7, 3, 1, 5, 3, 3], 10850216, True, (1, 0, 2), True, 4, None]
""",
    "sures": r"""
>>> [sure_cells(3, T), sure_cells(3, S) == X, sure_cells(2, T + (("cell", 0, 0, 1),)), height_bounds(3, S) == (heights(X), heights(X)), height_bounds(3, ()) == (heights(U), heights(L)), height_bounds(3, T)[0]]
[((0, 1, 0), (None, None, None), (None, None, None)), True, None, True, True, ((0, 1, 2, 3), (1, 2, 1, 2), (2, 1, 0, 1), (3, 2, 1, 0))]
>>> [square_order(least_told(3, T)), greatest_told(3, T) == P, least_told(3, (("cell", 1, 1, 0),)), least_told(3, (("least", 1, 1, 1),)) == order_square((1, 0, 2)), clash_in(3, (("cell", 0, 0, 1), ("cell", 1, 1, 0), ("cell", 0, 1, 1))), clash_in(3, T + S)]
[(1, 0, 2), True, None, True, (0, 2), None]
""",
    "fewcells": r"""
>>> [fewest_cells(X), fewest_cells(U), fewest_cells(((1,),)), fewest_points(U), fewest_points(X), fewest_points(unit_square(2))]
[((1, 1),), ((0, 0), (1, 1)), (), ((1, 1), (2, 2)), ((1, 1), (1, 2), (2, 1), (2, 2)), ((1, 1),)]
>>> [cell_questions(3, ()), cell_questions(3, T), cell_questions(3, S), next_cell(3, S), cell_paper(2, T), cell_paper(3, S) == ("told", X), cell_paper(2, T + (("cell", 0, 0, 1),))]
[3, 2, 0, None, ('told', ((0, 1), (1, 0))), True, ('none',)]
>>> [is_cell_paper(2, (), ("ask", 0, 0, ("none",), ("told", last_square(2)), ("told", unit_square(2)))), is_cell_paper(3, S, ("told", X)), is_cell_paper(3, T, ("told", X)), is_cell_paper(2, (), cell_paper(2, ()))]
[True, True, False, True]
""",
    "bounded": r"""
>>> [square_order(least_above(3, ((1, 1, 2),))), least_above(3, ()) == U, least_above(3, ((0, 0, 1),)), least_above(3, ((1, 1, 1), (2, 2, 2))) == X, square_order(greatest_under(3, ((1, 1, 0),))), greatest_under(12, ()) == last_square(12)]
[(1, 0, 2), True, None, True, (0, 2, 1), True]
>>> [bounds_go(3, ((1, 1, 2),), ((2, 2, 0),)), bounds_go(4, ((2, 2, 4),), ((1, 2, 1),)), bounds_paper(4, ((2, 2, 4),), ((1, 2, 1),)), bounds_paper(3, ((1, 1, 2), (0, 0, 1)), ()), bounds_paper(3, (), ())]
[True, False, (0, 0), (1, None), None]
""",
    "likemoves": r"""
>>> [[square_order(moved_by(P, move)) for move in ("quarter", "half", "slanted", "tipped", "stay")], move_behind("quarter", "quarter"), move_behind("tipped", "mirrored"), move_behind("mirrored", "tipped"), moves_made(("quarter",)), len(moves_made(("mirrored", "tipped")))]
[[(0, 2, 1), (2, 0, 1), (1, 2, 0), (2, 0, 1), (1, 2, 0)], 'half', 'quarter', 'three', ['half', 'quarter', 'stay', 'three'], 8]
>>> [len(own_moves(X)), own_moves(U), own_moves(P), is_like(U, ("half", "tipped")), is_like(U, ("mirrored",)), [square_order(some) for some in all_looks(P)], all_looks(X) == [X]]
[8, ['half', 'slanted', 'stay', 'tipped'], ['slanted', 'stay'], True, False, [(2, 0, 1), (1, 2, 0), (1, 0, 2), (0, 2, 1)], True]
""",
    "likelists": r"""
>>> [squares_like(3, ("mirrored",)) == [X], len(squares_like(4, ("half",))), squares_like(4, ("mirrored",)), [count_like(sides, ("tipped",)) for sides in (1, 2, 3, 4, 5)], count_like(5, ("mirrored",)), count_like(5, ("mirrored", "upended")), count_like(4, ("quarter",)), count_like(6, ("quarter",))]
[True, 10, [], [1, 2, 5, 16, 67], 3, 1, 2, 0]
>>> [len(told_cells(3, ("mirrored",))), len(told_cells(5, ("mirrored",))), told_cells(5, ("mirrored",))[:3], told_cells(2, ("tipped",)), told_cells(2, ("upended",)), [count_looks(sides) for sides in (1, 2, 3, 4, 5)]]
[9, 13, [((0, 0), 0), ((0, 1), 0), ((0, 2), 1)], [], [], [1, 1, 3, 11, 75]]
""",
    "likecounts": r"""
>>> [[count_by_move(sides, "half") for sides in (1, 2, 3, 4, 5, 6, 7)], [count_by_move(sides, "mirrored") for sides in (1, 2, 3, 5, 7, 9)], [count_by_move(sides, "quarter") for sides in (1, 2, 3, 4, 5, 6, 7, 8)], count_by_move(59, "upended") == count_by_move(59, "mirrored")]
[[1, 2, 3, 10, 25, 140, 588], [1, 0, 1, 3, 26, 646], [1, 0, 1, 2, 3, 0, 12, 40], True]
""",
    "likenear": r"""
>>> [like_below(P, ("tipped",)) == X, like_above(P, ("tipped",)) == L, like_below(P, ("half",)) == X, like_above(P, ("slanted",)) == P, apart_squares(U, L), apart_squares(P, X), apart_squares(P, tipped(P))]
[True, True, True, True, 4, 1, 2]
>>> [nearest_like(P, ("mirrored",)) == (1, [X]), nearest_like(P, ("tipped",)) == (1, [L, X]), nearest_like(X, ("quarter",)) == (0, [X]), nearest_like(unit_square(2), ("mirrored",)), nearest_like(U, ("mirrored", "tipped")) == (2, [X])]
[True, True, True, None, True]
""",
    "notes": r"""
>>> [are_notes(2, N), are_notes(3, N), are_notes(1, (((1, 1), (2, 2)), ((1, 1), (1, 1)))), plain_notes(D), notes_toggled(2, N, (1, 1))[1], notes_by_colour(2, N, 1) == N, notes_by_colour(2, N, 0) == notes_toggled(2, N, (1, 1))]
[True, False, False, (((1, 1), (2, 1), (4, 1)), ((2, 1), (1, 1), (2, 1)), ((4, 1), (2, 1), (1, 1))), ((2, 1), (4, 3), (2, 1)), True, True]
>>> [notes_toggled(3, plain_notes(X), (1, 1)) == plain_notes(lowered(X, (1, 1))), notes_toggled(3, plain_notes(U), (1, 2)) == plain_notes(U), notes_toggled(2, notes_toggled(2, N, (1, 1)), (1, 1)) == N]
[True, True, True]
""",
    "toggles": r"""
>>> [toggled(X, (1, 1)) == order_square((0, 2, 1)), toggled(U, (1, 2)) == U, toggled_colour(X, 0) == U, toggled_colour(X, 1) == L, toggled_colour(U, 0) == X, toggled_colour(U, 1) == U]
[True, True, True, True, True, True]
>>> [apart(U, L), apart(P, tipped(P)), apart(Q, Q), toggle_way(X, P), toggle_way(P, X), len(toggle_way(P, tipped(P))), is_toggle_way(P, tipped(P), ((2, 1), (1, 2))), is_toggle_way(X, P, ((2, 1),) * 3), is_toggle_way(X, X, ())]
[4, 2, 0, ((2, 1),), ((2, 1),), 2, True, False, True]
""",
    "lifesteps": r"""
>>> [is_state(W), is_state((D, N, (1, 3))), is_step(("colour", 2)), is_step(("tip",)), is_script(C), stepped(W, C[0])[0] == mirrored(D), stepped(W, C[0])[1][1], stepped(W, C[1])[1][1], stepped(W, ("invert",))[1][0]]
[True, False, False, True, True, True, ((2, 1), (4, 3), (2, 1)), ((1, 1), (3, 2), (1, 1)), ((1, 1), (1, 2), (1, 1))]
>>> [stepped(W, ("set", (0, 1), (5, 1)))[1][0], stepped(W, ("go", (0, 2)))[2], stepped(W, ("join", (1, 0)))[0], stepped(W, ("meet", (1, 0))) == W, stepped((D, N, (0, 2)), ("upend",))[2], stepped((D, N, (0, 1)), ("tip",))[2], stepped(W, ("colour", 1)) == W]
[((1, 1), (5, 1), (1, 1)), (0, 2), ((0, 1), (1, 0)), True, (2, 2), (1, 0), True]
>>> [len(all_stepped(W, C)), all_stepped(W, C)[-1][0] == D, all_stepped(W, C)[-1][1][1], all_stepped(W, ()) == [W], step_back(W, C[0]), step_back(W, C[1]), step_back(W, ("set", (0, 1), (5, 1))), step_back(W, ("go", (0, 0))), step_back(W, ("join", (1, 0)))]
[4, True, ((1, 1), (2, 3), (1, 1)), True, ('toggle', (1, 1)), ('scale', (2, 1)), ('set', (0, 1), (2, 1)), ('go', (1, 1)), None]
""",
    "lifetexts": r"""
>>> [square_text(X), square_text(((1,),)), notes_text(2, stepped(W, C[0])[1]), script_text(C).split("\n"), read_square("+0/0+") == D, read_notes(1, "1 1/2; 3 1"), read_script("tip\ncolour 1\nset 0-1 2/3\ngo 0-0\nmeet 0 2 1\ninvert")]
['0+0/+-+/0+0', '+', '1 2 1; 2 4/3 2; 1 2 1', ['toggle 1-1', 'scale 1/2', 'mirror'], True, (((1, 1), (1, 2)), ((3, 1), (1, 1))), (('tip',), ('colour', 1), ('set', (0, 1), (2, 3)), ('go', (0, 0)), ('meet', (0, 2, 1)), ('invert',))]
""",
    "lifevalues": r"""
>>> t = Toned(D, N)
>>> [(t ^ (1, 1))(1, 1), (t << 0) == (t ^ (1, 1)), (t ^ (1, 1)) ^ (1, 1) == t, (~t)(0, 1), t[(1, 1)], (1, 1) in t, (0, 1) in t, len(t), bool(t), bool(Toned.plain(X)), str(t), t.like(t * (1, 2)), t.like(~t), (t | (1, 0)).square, (t & (0, 1)) == t]
[(4, 3), True, True, (1, 2), 0, True, False, 2, True, False, '+0/0+; 1 2 1; 2 3 2; 1 2 1', True, False, ((0, 1), (1, 0)), True]
""",
    "lifebenches": r"""
>>> b = Bench(W)
>>> [b.rise, b.free, b.here, bool(b), b.do(C[0]), b.here, b.rise, list(b.lines()), b[(1, 1)], (1, 1) in b, b.do(("colour", 1)), b.undo(), len(b)]
[0, ((1, 1),), (3, 1), True, True, (4, 3), 1, ['0 1 2', '1 2* 1', '2 1 0'], (2, (4, 3)), True, False, None, 1]
>>> b += C[1:]
>>> [b.square == D, b.notes[1], b.heights[0], b.undo(), b.redo(), len(b.log), len(b), b.undo(), b.undo(), b.state == W, b.log]
[True, ((1, 1), (2, 3), (1, 1)), (0, 1, 2), None, None, 3, 2, None, None, True, ()]
""",
}


def names_of_the_package():
    """All names that the modules of the package define, as one dict."""
    found = {}
    for name in MODULES:
        module = importlib.import_module("signsquared." + name)
        found.update({key: value for key, value in vars(module).items() if not key.startswith("__")})
    return found


class Examples(unittest.TestCase):
    def test_all_modules_have_examples(self):
        self.assertEqual(sorted(EXAMPLES), sorted(MODULES))

    def test_examples(self):
        for name in MODULES:
            with self.subTest(module=name):
                # A line feed behind each result begins a new example, as doctest wants it.
                text = (MEANT + EXAMPLES[name]).replace("\n>>>", "\n\n>>>")
                test = doctest.DocTestParser().get_doctest(text, names_of_the_package(), name, None, 0)
                told = []
                result = doctest.DocTestRunner(verbose=False).run(test, out=told.append)
                self.assertGreater(result.attempted, 5)
                self.assertEqual(result.failed, 0, "".join(told))

    def test_examples_of_the_readme(self):
        readme = pathlib.Path(__file__).resolve().parent.parent / "README.md"
        test = doctest.DocTestParser().get_doctest(readme.read_text(encoding="utf-8"), {}, "README", None, 0)
        result = doctest.DocTestRunner(verbose=False).run(test)
        self.assertEqual((result.failed, result.attempted > 5), (0, True))


if __name__ == "__main__":
    unittest.main()
