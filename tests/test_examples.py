"""Every example of sections 3 to 21 of the document, word for word."""

import unittest

from tests import calls
from whomheeds import board, errors

COUNCILS = """
    >>> council, ring = (5, (0, 2), (1, 3), 9), (4, (2,), (1,), (0, 1))
    >>> is_council(council), is_council((5, (0, 0))), askers(council), asked_by(council, 1), arcs_of(ring)
    (True, False, (1, 2), (2,), ((1, 2), (2, 1), (3, 0), (3, 1)))
    >>> reached(council, 1), reaching(ring, 1), roads(council, 2, 0), shortest_road(council, 0, 3), is_road(council, (1, 2, 1))
    ((0, 1, 2, 3), (1, 2, 3), [(2, 1, 0)], None, False)
    >>> lost(ring), is_sound(council), needed_arcs(council), needed_arcs((5, (0,), (0, 1)))
    ((1, 2), True, (), ((1, 0),))
    >>> in_rings(council), shortest_ring(council, 2), shortest_ring(ring, 3), together(ring)
    ((1, 2), (2, 1), None, ((0,), (1, 2), (3,)))
    >>> with_arc(council, 1, 3)[1], without_arc(council, 1, 0), made_firm(council, 1, 7)
    ((0, 2, 3), (5, (2,), (1, 3), 9), (5, 7, (1, 3), 9))
    >>> renumbered(council, (3, 1, 2, 0)), put_beside((5,), (7, (0,))), part_of((5, 6, (0,)), 2)
    ((9, (2, 3), (0, 1), 5), (5, 7, (1,)), (5, (0,)))
    >>> made_asker(council, 1, (1, 4))
    raises NoMember(number=4)
    >>> without_arc(ring, 1, 2)
    raises Unfit()
"""

VOICES = """
    >>> council, weights = (0, 12, (0, 3), (1, 2)), ((), (), (1, 2), (1, 1))
    >>> voice_by(council, weights), total_weight(council, weights), weight_to(council, weights, 2, 1), weight_to(council, weights, 3, 1)
    (((0, 1), (12, 1), (6, 1), (9, 1)), 4, 2, 3)
    >>> share(council, weights, 3, 1), shares(council, weights, 2), shares(council, weights, 1)
    ((3, 4), ((1, 2), (1, 2), (0, 1), (0, 1)), ((0, 1), (1, 1), (0, 1), (0, 1)))
    >>> sum_at(council, weights, (0, 0, 1, -1)), wish_at(council, weights, ((3, 0, -2), (2, 1, 4)))
    ((-3, 1), (3, 2))
    >>> more = with_weight(council, weights, 3, 1, 3)
    >>> more, voice_by(council, more), total_weight(council, more), same_shares(council, weights, more)
    (((), (), (1, 2), (3, 1)), ((0, 1), (12, 1), (36, 5), (54, 5)), 10, False)
    >>> louder(council, weights, 2, 5), plain_weights(council, ((), (), (4, 6), (3, 3))), equal_weights(council)
    (((), (), (5, 10), (1, 1)), ((), (), (2, 3), (1, 1)), ((), (), (1, 1), (1, 1)))
    >>> whole_weights(council, ((), (), ((1, 2), (2, 3)), ((1, 1), (1, 4))))
    ((), (), (3, 4), (4, 1))
    >>> voice = ((0, 1), (12, 1), (1, 2), (3, 1))
    >>> mean_of(council, weights, voice, 2), off_means(council, weights, voice), is_voice(council, weights, voice)
    ((2, 1), (2, 3), False)
    >>> voice_by((5, (2,), (1,)), ((), (1,), (1,)))
    raises Lost(number=1)
"""

FOLLOWS = """
    >>> council, weights = (0, 12, (0, 3), (1, 2)), ((), (), (1, 2), (1, 1))
    >>> all_followings(council), ends_of(council, (0, 1, 3, 1)), product_of(council, weights, (0, 1, 3, 1))
    ([(0, 1, 0, 1), (0, 1, 0, 2), (0, 1, 3, 1)], (0, 1, 1, 1), 2)
    >>> how_many(council), how_many_with(council, ((3, 1),)), how_many_ending(council, 3, 1), nth_following(council, 2), place_of(council, (0, 1, 0, 2))
    (3, 2, 2, (0, 1, 3, 1), 1)
    >>> goes_on(council, ((2, 3), (3, 2))), shut_in(council, ((2, 3), (3, 2))), completed(council, ((3, 2),)), completed(council, ((2, 3), (3, 2)))
    (False, (2, 3), (0, 1, 0, 2), None)
    >>> turned(council, (0, 1, 0, 1), 2, 3), changes(council, (0, 1, 0, 2), (0, 1, 3, 1))
    ((0, 1, 3, 1), ((0, 1, 0, 2), (0, 1, 0, 1), (0, 1, 3, 1)))
    >>> dead_arcs((5, (0, 2), (1,))), sure_arcs((5, (0, 2), (1,))), dead_arcs(council)
    (((1, 2),), ((1, 0), (2, 1)), ())
    >>> prices = ((), (), (4, 1), (3, 2))
    >>> cheapest_following(council, prices), price_of(council, prices, (0, 1, 0, 2)), is_laying(council, prices, (((2,), 1), ((2, 3), 1), ((3,), 2)))
    ((0, 1, 3, 1), 6, True)
    >>> turned(council, (0, 1, 0, 2), 2, 3)
    raises Unfit()
"""

RANGES = """
    >>> council = ((1, 3), (0, 2), 0, 6, (3, 5), 6, (4,))
    >>> ends_at(council, 0), ends_at(council, 6), ends_at(council, 2), least_held(council, 1), greatest_held(council, 1), least_held(council, 6)
    ((2, 3), (3, 5), (2,), 0, 6, 6)
    >>> can_hold(council, 0, (5, 2)), can_hold(council, 0, (0, 1)), can_hold(council, 6, (6, 1)), can_hold(council, 3, (5, 1))
    (True, False, True, False)
    >>> always_above(council, 0, 0), always_above(council, 6, 6), always_from(council, 6, 6), always_above(council, 4, 5), always_from(council, 0, 1)
    (True, False, True, True, False)
    >>> is_low(council, 0, 1, ((9, 1), (1, 9), (), (), (1, 1), (), (1,))), is_low(council, 0, 1, ((1, 1), (1, 9), (), (), (1, 1), (), (1,))), low_weights(council, 6, 5)
    (True, False, None)
    >>> is_best(council, "greatest", (3, 0, 2, 3, 3, 5, 4)), is_best(council, "least", (1, 2, 2, 3, 5, 5, 4)), is_best(council, "least", (3, 2, 2, 3, 5, 5, 4))
    (True, True, False)
    >>> plain_value(council, "greatest", (2, 1, 0, -1, 0, 0, 1)), plain_value(council, "least", (2, 1, 0, -1, 0, 0, 1))
    (18, 0)
    >>> plain_value(council, "least", (0, -1, 0, 0, 0, 0, 0))
    raises Unfit()
    >>> least_held(council, 7)
    raises NoMember(number=7)
    >>> ends_at(((1,), (0,), 5), 2)
    raises Lost(number=0)
"""

GATES = """
    >>> kin, wide, split = ((1,), (2, 3), (1, 3), (4, 5), 6, 2), ((1, 3), (0, 4), (0, 1), 2, 9), ((1, 2), (2, 4), (1, 3), 6, 6)
    >>> gates(kin, 0), gates(kin, 2), gates(kin, 4), leader(kin, 1), next_gate(kin, 0), next_gate(kin, 3), led_by(kin, 3)
    ((0, 1, 3), (2, 3), (4,), 3, 1, None, (0, 1, 2, 3))
    >>> common_gates(kin, (0, 1)), common_gates(kin, (0, 4)), lots_by_leader(kin), gates(wide, 2)
    ((1, 3), (), ((0, 1, 2, 3), (4,), (5,)), (2,))
    >>> alike_always(kin, 0, 2), apart_roads(kin, 0, 2), apart_roads(wide, 0, 1), is_apart_roads(wide, 1, 0, ((1, 4), (0, 3)))
    (True, None, ((0, 3), (1, 4)), True)
    >>> alike_always(split, 1, 2), alike(split, 1, 2), unlike_roads(split, 1, 2), is_apart_roads(split, 1, 2, ((1, 4), (2, 3))), lots_alike(split)
    (False, True, None, True, ((0, 1, 2, 3, 4),))
    >>> is_apart_roads(wide, 0, 1, ((0, 1, 4), (1, 4))), is_unlike_roads(wide, 2, 2, ((2, 0, 3), (2, 1, 4)))
    (False, False)
    >>> parting_arcs(((1,), (2, 3), 0, 1), 0, 1), parting_arcs(wide, 0, 1)
    (((0, 2), (0, 3)), ())
    >>> gates(((1,), (0,), 3), 2)
    raises Lost(number=0)
"""

SUMS = """
    >>> council = (0, 6, (0, 3), (1, 2), (2, 3))
    >>> gap, spread = (0, 0, -1, 1, 0), (0, 0, -1, -1, 2)
    >>> least_value(council, gap), greatest_value(council, gap), sign_of(council, gap), holds(council, gap, 0), holds(council, gap, 1), sign_of(council, spread), least_value(council, spread)
    (0, 6, 'above', True, False, 'either', -6)
    >>> against(council, spread, -5), against(council, gap, 0), value_at(council, (0, 1, 0, 1, 2), spread), is_against(council, spread, 0, (0, 1, 3, 2, 2)), is_against(council, gap, 1, (0, 1, 0, 2, 3))
    ((0, 1, 0, 1, 2), None, -6, False, True)
    >>> shown = loud(council, (0, 1, 0, 1, 2), 10)
    >>> shown, is_weights_against(council, spread, -4, shown), is_weights_against(council, spread, -5, shown), is_weights_against(council, spread, 0, ((), (), (1, 1), (1, 1), (1, 1))), weights_against(council, gap, 0)
    (((), (), (10, 1), (10, 1), (10, 1)), True, False, False, None)
    >>> beside(council, 2, 3), beside(council, 4, 2), beside(council, 0, 0), surely_below(council), sign_of(council, (3, 0, 0, 0, 0))
    ('below', 'above', 'alike', [(0, 1), (0, 2), (0, 3), (0, 4), (2, 1), (2, 3), (2, 4), (3, 1), (4, 1), (4, 3)], 'nothing')
    >>> both = ((3, 0, 1), (2, 1, 1))
    >>> least_wish(council, both), greatest_wish(council, both), sign_of_wish(council, both), is_against_wish(council, both, 1, (0, 1, 0, 1, 3)), wish_of(council, gap)
    (0, 1, 'above', True, ((2, 1, -6), (3, 1, 6)))
    >>> beside(council, 5, 6)
    raises NoMember(number=5)
    >>> holds((5, (2,), (1,)), (0, 0, 0), 1)
    raises Lost(number=1)
"""

BETWEEN = """
    >>> council = (0, 6, (0, 3), (1, 2), (2, 3))
    >>> even, first = ((), (), (1, 1), (1, 1), (1, 1)), (0, 0, 1, 0, 0)
    >>> comes(council, first, (3, 1)), comes(council, first, (6, 1)), comes(council, (0, 0, -1, 1, 0), (0, 1)), weights_for(council, first, (7, 1))
    (True, False, False, None)
    >>> way_of(council, even, 2, (1, 4), first), crossing(council, even, 2, (1, 4), first, (3, 1)), mixed(council, even, 2, (1, 4), (1, 3)), is_weights_for(council, first, (3, 1), ((), (), (1, 2), (1, 1), (1, 1)))
    ('up', (1, 3), ((), (), (1, 2), (1, 1), (1, 1)), True)
    >>> crossing(council, even, 2, (1, 4), first, (5, 1)), way_of(council, even, 4, (1, 9), first), crossing(council, even, 4, (1, 9), first, (2, 1)), mixed(council, even, 3, (6, 9), (1, 1))
    (None, 'same', (0, 1), ((), (), (1, 1), (2, 3), (1, 1)))
    >>> later = ((), (), (1, 4), (5, 1), (2, 2))
    >>> len(steps_between(council, even, later)), steps_between(council, even, later)[1] == set_row(council, even, 2, (1, 4)), steps_between(council, even, later)[-1] == later
    (4, True, True)
    >>> step_at(council, even, later, first, (3, 1)), step_at(council, even, later, first, (9, 2)), step_at(council, even, later, first, (2, 1)), step_at(council, even, later, first, (5, 1))
    (2, 3, None, None)
    >>> between_weights(council, even, later, first, (3, 1)), between_weights(council, even, later, first, (2, 1)) == even, between_weights(council, even, later, first, (5, 1))
    (((), (), (1, 2), (1, 1), (1, 1)), True, None)
    >>> mixed(council, even, 1, (), (1, 2))
    raises NoAsker(number=1)
"""

ORDERS = """
    >>> council = ((1, 3), (0, 2), 0, 6)
    >>> voice, wrong = ((4, 1), (2, 1), (0, 1), (6, 1)), ((1, 1), (2, 1), (0, 1), (6, 1))
    >>> misfits(council, voice), misfits(council, wrong), can_be_voice(council, wrong), is_weights_of(council, voice, ((1, 1), (1, 1), (), ()))
    ((), (0, 1), False, True)
    >>> may_hold(council, wrong, 0), may_hold(council, wrong, 1), mended_by(council, wrong), weights_of_voice(council, wrong)
    (((2, 1), (6, 1)), ((0, 1), (1, 1)), (0, 1), None)
    >>> order_of(council, voice), all_orders(council), how_they_stand(council, 0, 1), how_they_stand(council, 1, 1)
    (((2,), (1,), (0,), (3,)), [((2,), (1,), (0,), (3,))], ('above',), ('alike',))
    >>> is_order(council, ((2, 3), (0, 1))), is_let(council, ((2,), (0, 1), (3,))), voice_with(council, ((2,), (0, 1), (3,)))
    (False, False, None)
    >>> trio = ((1, 2, 3), 0, 6, (1, 2))
    >>> all_orders(trio)
    [((1,), (0,), (3,), (2,)), ((1,), (0, 3), (2,)), ((1,), (3,), (0,), (2,))]
    >>> may_hold(((1,), (2, 3), 0, 4), ((3, 1), (1, 1), (0, 1), (4, 1)), 1)
    ((3, 1), (3, 1))
    >>> misfits(council, ((4, 1), (2, 1), (1, 1), (6, 1)))
    raises Unfit()
    >>> may_hold(council, voice, 2)
    raises NoAsker(number=2)
"""

UNKNOWN = """
    >>> council, order, gap = (0, 6, (0, 3), (1, 2)), ((0, 1),), (0, 0, -1, 1)
    >>> is_told_order(council, order), is_told_order(council, ((0, 0),)), is_in_order(council, order, ((0, 4), (1, 4))), is_in_order(council, order, ((0, 5), (1, 4))), upward_sets(council, order), upward_sets(council, ())
    (True, False, True, False, [(), (0, 1), (1,)], [(), (0,), (0, 1), (1,)])
    >>> holds_in_order(council, order, gap), holds_in_order(council, (), gap), holds_in_order(council, order, (0, 0, 1, 0)), holds_from_zero(council, order, (0, 0, 1, 0)), against_in_order(council, order, gap)
    (True, False, False, True, None)
    >>> is_against_in_order(council, (), gap, ((0, 1, 0, 1), ((0, 1), (1, 0)))), is_against_in_order(council, order, gap, ((0, 1, 0, 1), ((0, 1), (1, 0))))
    (True, False)
    >>> is_nothing_in_order(council, ((0, 1), (1, 0)), gap), is_nothing_in_order(council, order, gap), idle_pairs(council, ((0, 1), (1, 0)), gap)
    (True, False, ((1, 0),))
    >>> at_most(council, order, 2, 3), at_most(council, (), 2, 3), at_most(council, order, 2, 0), needed_pairs(council, 2, 3), needed_pairs(council, 3, 2)
    (True, False, False, ((0, 1),), ((1, 0),))
    >>> least_by_firm(council, ((0, -1, 2),), gap), greatest_by_firm(council, ((0, -1, 2),), gap), stretch_by_firm(council, ((0, -1, 2),), 3)
    (0, 7, (-1, 6))
    >>> holds_in_order(council, ((0, 2),), gap)
    raises NoFirm(number=2)
"""

BOUNDS = """
    >>> council, bounds, total = ((1, 2), (0, 3), 0, 12), (((1, 2), (1, 1)), ((1, 1), (1, 3)), (), ()), (-1, 1, 0, 0)
    >>> [fit_bounds(council, bounds, (own, (2, 2), (), ())) for own in ((4, 2), (3, 2), (1, 2), (5, 2))]
    [True, True, False, False]
    >>> how_many_corners(council, bounds), nth_corner(council, bounds, 2), is_corner(council, bounds, ((2, 2), (1, 1), (), ()))
    (4, ((2, 1), (1, 1), (), ()), False)
    >>> highest_voice(council, bounds), lowest_voice(council, bounds), highest_corner(council, bounds)
    (((36, 5), (54, 5), (0, 1), (12, 1)), ((4, 1), (8, 1), (0, 1), (12, 1)), ((2, 1), (1, 3), (), ()))
    >>> may_hold_within(council, bounds, 0, (15, 2)), is_lowest(council, bounds, ((7, 7), (5, 5), (), ()))
    (False, True)
    >>> least_within(council, bounds, total), greatest_within(council, bounds, total), corner_of_greatest(council, bounds, total)
    ((3, 1), (36, 7), ((1, 1), (1, 3), (), ()))
    >>> is_weights_within(council, bounds, total, (9, 2), ((1, 1), (2, 3), (), ())), weights_within(council, bounds, total, (6, 1))
    (True, None)
    >>> wide = (((1, 4), (1, 2)), ((1, 1), (1, 3)), (), ())
    >>> narrower(council, bounds, wide), narrower(council, wide, bounds)
    (True, False)
"""

LOTS = """
    >>> council, heeds = ((1, 2, 3), (0, 3), 12, 0), ((0, 2, 1), (0, 2, 3))
    >>> lots_of(council, heeds, 0), lots_of(council, heeds, 1), value_by_lots(council, ((1, 2, 3), (0, 3), (), ()), (1, 0, 0, 0)), len(all_lots(council, heeds))
    ([(1, 2), (1, 2, 3), (2,), (2, 3)], [(0,), (0, 3), (3,)], (24, 5), 12)
    >>> heeded(council, heeds, (1, 0, 0, 0)), heeded(((1, 2), 6, 0), ((0, 1, 2),), (1, 0, 0))
    (((4, 1), (12, 1), False, False), ((3, 1), (6, 1), True, False))
    >>> holds_heeded(council, heeds, (1, 0, 0, 0), 4), strictly_heeded(council, heeds, (1, 0, 0, 0), 4), [is_heeding_against(council, heeds, (1, 0, 0, 0), 5, (mine, (1, 9), (), ())) for mine in ((1, 1, 1), (2, 1, 1), (1, 9, 1))]
    (True, True, [True, False, False])
    >>> heeding_weights(council, heeds, (1, 0, 0, 0), (12, 1)), is_high_lots(council, heeds, ((2,), (0,), (), ())), is_low_lots(council, heeds, ((1, 2, 3), (3,), (), ())), heeded_range(council, heeds, 1)
    (None, True, True, ((0, 1), (12, 1), False, False))
    >>> all_heeds(council, ((0, 1, 3),) + heeds[:1]), needless_heeds(council, ((0, 1, 3), (0, 2, 1), (0, 2, 3)))
    (((0, 1, 3), (0, 2, 1), (0, 2, 3)), ((0, 2, 3),))
    >>> value_by_lots(((1, 2), (0, 2), 5), ((1,), (0,), ()), (1, 0, 0))
    raises Unfit()
"""

PULLS = """
    >>> ring = (0, 6, (0, 3), (1, 2), (3,), (0, 1))
    >>> pull(ring, 2, 3), pulls(ring, 4), [fixing(ring, 3, number) for number in (0, 5, 6)], whose_matter(ring, 4)
    ('up', ((0, 'down'), (1, 'up'), (2, 'down'), (3, 'none'), (5, 'either')), ['down', 'either', 'up'], (2, 3))
    >>> evenly, more = ((), (), (1, 1), (1, 1), (1,), (1, 1)), ((), (), (2, 1), (1, 1), (1,), (1, 1))
    >>> [is_pull_paper(ring, 5, 2, word, evenly) for word in ("up", "down")], pull_paper(ring, 2, 3, "up"), is_weights_apart(ring, 2, 4, (evenly, more))
    ([True, False], None, True)
    >>> ends_table(ring[:4]), can_end(ring, (0, 1, 1, 0, 0, 0)), following_to(ring, (0, 1, 0, 1, 1, 0))
    (((0, 1, 0, 0), (0, 1, 0, 1), (0, 1, 1, 1)), False, (0, 1, 0, 1, 3, 0))
    >>> less, twice = (0, 6, (0,), (1, 2)), ring + ((3, 4),)
    >>> tells_no_more(less, ring[:4]), is_parting_wish(ring[:4], less, ((2, 1, -1),)), parting_wish(less, ring[:4]), needless_arcs(twice), lean_council(twice)[6]
    (True, True, None, ((6, 3), (6, 4)), (4,))
    >>> pull(ring, 1, 0)
    raises NoAsker(number=1)
"""

HOUSES = """
    >>> house, bare = (((1, 2), 0, 7), (1,), (0,)), (((1,), 0, 7), (1,), (0,))
    >>> letter(house), letter(bare)
    ((1, 1, ((('door', 0),), (('own', 0),))), (1, 1, ((('door', 0),),)))
    >>> outside = (((1, 2), 0, 3), (1,), (0,))
    >>> put_together(house, outside), places_there(house, outside), wish_there(house, outside, ((("seen", 0), ("own", 0), 1), (("out", 0), ("out", 2), -1)))
    (((1, 2), 7, (0, 3), 3), ((0, 2, 1), (2, 0, 3)), ((0, 1, 1), (2, 3, -1)))
    >>> lets_no_more_outside(bare, house), lets_no_more_outside(house, bare), alike_outside(house, house), parting_outside(bare, house)
    (True, False, True, None)
    >>> is_parting_outside(house, bare, (((0, 0), (0,), (1,)), ((("seen", 0), ("own", 0), -1),))), is_parting_outside(house, bare, parting_outside(house, bare))
    (True, True)
    >>> is_safe(house), is_safe(bare), losing_outside(house), is_losing(bare, (((1,), 0), (1,), (0,)))
    (True, False, None, True)
    >>> two = (((3, 4), (0, 4), (0,), 0, 1), (3,), (0, 1, 2))
    >>> seen_alike(two, 0, 2), seen_above(two, 1, 0), len(letter(two)[2]), needless_inside((((1, 2), (0, 2), 0, 4), (2,), (0,)))
    (True, False, 3, [(0, 1), (0, 2), (1, 0), (1, 2)])
    >>> joined_houses(house, bare, ((0, 0, 0),)), joined_letters(letter(bare), letter(bare), ((0, 0, 0),))
    ((((1, 2), 7, (3,), 0, 7), (3,), (0, 2)), (1, 2, ((('door', 0), ('door', 0)),)))
    >>> joined_houses(bare, bare, ((0, 0, 0), (1, 0, 0)))
    raises Unfit()
"""

BUYERS = """
    >>> town = ((2, 4), (3, 4), (1, 5), (5, 6), 9, 3, 0)
    >>> are_sure(town, (0, 1), 5, (0, 3)), are_sure(town, (0, 1), 5, (3,)), low_road(town, (1,), 5, (2,))[:2], low_road(town, (0,), 5, (2,))
    (True, False, (1, 3), None)
    >>> fewest_bought(town, (0, 1), 5), least_bought(town, (0, 1), 5), all_least_bought(town, (0, 1), 5), needed_bought(town, (0, 3), 5)
    (2, (0, 1), [(0, 1), (0, 3), (1, 2), (2, 3)], (3,))
    >>> is_roads_apart(town, (0, 1), 5, ((0, 2, 5), (1, 3, 6))), is_roads_apart(town, (0, 1), 5, ((0, 2, 5), (1, 3, 5))), is_roads_apart(town, (0, 1), 5, ((0, 2, 1, 3, 5),))
    (True, True, False)
    >>> prices = (5, 1, 2, 4, None, None, None)
    >>> cheapest_bought(town, (0, 1), 5, prices), cheapest_bought(town, (0, 1), 5, (None, 1, None) + prices[3:]), fewest_bought(town, (0, 6), 5), fewest_bought(town, (0, 4), 0)
    (3, None, None, 0)
    >>> most_ends(town), is_bar(town, ((4,), (2, 3))), is_bar(town, ((4, 5), (3,))), fewest_ends(town), least_ends(town)
    (3, True, True, 1, (5,))
    >>> are_sure(town, (0,), 5, (4,))
    raises NoAsker(number=4)
"""

ROUNDS = """
    >>> council, begun, even = ((1, 2), (0, 3), 0, 12), (6, 2, 0, 12), ((1, 1), (1, 1), (), ())
    >>> after_talk(council, begun, (even,)), after_talk(council, begun, (even, ((1, 2), (1, 1), (), ())))[:2]
    (((1, 1), (9, 1), (0, 1), (12, 1)), ((3, 1), (13, 2)))
    >>> line = ((1,), (2, 3), 0, 12)
    >>> unfolded(line, (5, 7, 0, 12), 1), round_weights(line, ((1, 1), (2, 1), (0, 1), (12, 1)), ((3, 1), (1, 1), (0, 1), (12, 1)))
    ((5, 7, 0, 12, (1,), (2, 3), 0, 12), None)
    >>> least_after(council, begun, 1, 0), greatest_after(council, begun, 2, 0), total_after(council, begun, 1, (1, 1, 0, 0)), talk_against(council, begun, 1, (1, 1, 0, 0), 6)
    (0, 12, (6, 14), None)
    >>> hangs_on(council, 0, 3), hangs_on(council, 0, 10 ** 30), hangs_on(line, 0, 1), rounds_till_free(line, 0), rounds_till_free(council, 0)
    ((1,), (0,), (1,), 2, None)
    >>> [farthest(council, begun, even, rounds) for rounds in (0, 1, 2)]
    [(6, 1), (3, 1), (3, 2)]
"""

JUDGE = """
    >>> council, more = (0, 10, (0, 1), (1, 2)), (0, 0, -1, 1)
    >>> stands(council, ("least", more, 0)), stands(council, ("above", more, 0)), paper_against(council, ("like", 2, 3)) is None, stands(council, ("wish", ((3, 1, 1), (2, 1, -1)), 0))
    (True, True, False, True)
    >>> weights = ((), (), (10, 1), (1, 1))
    >>> is_paper_against(council, ("least", (0, 0, 1, 0), 1), weights), is_paper_against(council, ("least", (0, 0, 1, 0), 0), weights), best_claim(council, ("least", (0, 0, 1, 1), -7)), is_claim(council, ("like", 2, 4))
    (True, False, ('least', (0, 0, 1, 1), 0), False)
    >>> stands(council, ("voice", ((0, 1), (10, 1), (5, 1), (10, 1)))), stands(council, ("voice", ((0, 1), (10, 1), (5, 1), (15, 2)))), stands(council, ("pull", 3, 1, 3)), stands(council, ("pull", 3, 2, 3))
    (True, False, True, False)
    >>> stands(council, ("heeds", ((2, 1, 0),), (0, 0, 1, 0), 5)), stands(council, ("order", ((0, 1),), (-1, 0, 1, 0))), stands(council, ("bought", (3,), 8, (2,))), stands(council, ("bought", (3,), 8, ()))
    (True, True, True, False)
    >>> claims = (("like", 2, 3), ("least", more, 0), ("least", (0, 0, 1, 0), 1))
    >>> first_fallen(council, claims)[0], first_fallen(council, claims[1:2]), fewest_arcs_out(council, claims[0]), fewest_arcs_out(council, claims[2]), broken_by((0, 10, (1,), (1, 2)), council, claims)
    (0, None, ((2, 0),), ((2, 0),), (0, 2))
    >>> stands(((1,), (0,), 5), ("like", 0, 1))
    raises Lost(number=0)
    >>> paper_against(council, ("least", (0, 0, 1), 0))
    raises Unfit()
"""

TEXTS = """
    >>> council = (5, (0, 2), (0, 1, 3), -2)
    >>> council_text(council)
    'council\\nholds 5\\nasks 0 2\\nasks 0 1 3\\nholds -2\\n'
    >>> read_council("council\\nholds 5\\nasks 0"), read_council("council\\nasks 1\\nasks 0\\n"), fraction_text((7, 2)), fraction_text((-3, 1)), read_fraction("-3"), read_fraction("0")
    ((5, (0,)), ((1,), (0,)), '7/2', '-3', (-3, 1), (0, 1))
    >>> weights_text(((), (1, 2), (3, 1, 1), ())), read_weights(council, "-\\n1 2\\n3 1 1\\n-"), wish_text(((1, 0, 2), (2, 3, -1))), read_wish(council, "1 0 2\\n1 0 2\\n"), read_wish(council, "")
    ('-\\n1 2\\n3 1 1\\n-\\n', ((), (1, 2), (3, 1, 1), ()), '1 0 2\\n2 3 -1\\n', ((1, 0, 2), (1, 0, 2)), ())
    >>> voice_text(((5, 1), (8, 3), (-1, 2))), read_voice(council, "5 0 1/2 -2"), read_sum(council, "0 1 -1 0"), following_text((0, 0, 1, 3)), read_following(council, "0 0 1 3")
    ('5 8/3 -1/2', ((5, 1), (0, 1), (1, 2), (-2, 1)), (0, 1, -1, 0), '0 0 1 3', (0, 0, 1, 3))
    >>> read_council("council\\nholds 5\\nasks 0 0")
    raises BadLine(number=2)
    >>> read_council("council\\nholds 05")
    raises BadLine(number=1)
    >>> read_weights(council, "-\\n1 2\\n3 1\\n-")
    raises BadLine(number=2)
    >>> read_fraction("4/2")
    raises BadText()
    >>> read_following(council, "0 2 1 3")
    raises BadText()
"""

BOARD = """
    >>> board = Board((0, 6, (0, 3), (1, 2)))
    >>> board.hope("gap", (0, 0, -1, 1)), board.hope("top", (0, 1, 0, -2)), board.held(), board.span("gap"), board.span("top"), board.breaker("gap"), board.mended_by(3, 1), board.spoilt_by(2, 1)
    (None, None, ('gap',), (0, 6), (-6, 6), None, ('top',), ())
    >>> board.ask(2, 1), board.spoilt_by(3, 0), board.idle_arcs(), board.turned_by(2, 9), board.settle(2, 9), board.changed(), board.held(), board.undo(), board.members(), len(board)
    (None, ('gap',), ((2, 1), (2, 3)), ('gap',), None, ('gap',), (), None, (0, 6, (0, 1, 3), (1, 2)), 3)
    >>> board.enter(4), board.hopes(), board.open_up(4, (2,)), board.members(), board.is_held("gap"), board == Board((0, 6, (0, 1, 3), (1, 2), (2,)))
    (None, (('gap', (0, 0, -1, 1, 0)), ('top', (0, 1, 0, -2, 0))), None, (0, 6, (0, 1, 3), (1, 2), (2,)), True, False)
    >>> board.drop("up")
    raises NoWord(word='up')
    >>> Board((5, (0, 2), (1,))).leave(1, 0)
    raises Lost(number=1)
"""

DESK = """
    >>> council = (0, 6, (0, 3), (1, 2))
    >>> replies(council, "hope gap 0 0 -1 1\\nhope top 0 1 0 -2\\nheld\\nspan top\\nagainst top\\nmended 3 1\\nask 2 1\\nspoilt 3 0\\nturns 2 9\\nsettle 2 9\\nchanged\\nheld\\nundo\\nmembers\\nvoice\\nidle\\ndeeds")
    ['done', 'done', 'gap', '-6 6', 'below', 'top', 'done', 'gap', 'gap', 'done', 'gap', '-', 'done', 'holds 0 / holds 6 / asks 0 1 3 / asks 1 2', '0 6 18/5 24/5', '2>1 2>3', '3']
    >>> replies(council, "ask 2 0\\nleave 0 1\\nask 2 9\\nleave 3 2\\nleave 3 1\\nsettle -1 4\\ndrop up\\nhope a 1\\nenter -7\\nopen 4 0 2\\nopen 4 4\\nmembers\\nundo\\nundo\\nundo\\nundo\\nhopes")
    ['refused Unfit', 'refused NoAsker', 'refused NoMember', 'done', 'refused Unfit', 'refused NoMember', 'refused NoWord', 'refused Unfit', 'done', 'done', 'refused Unfit', 'holds 0 / holds 6 / asks 0 3 / asks 1 / asks 0 2', 'done', 'done', 'done', 'refused NothingDone', '-']
    >>> is_request("held"), is_request("open 2 10 9"), is_request("hope Up 1"), is_request("ask 02 1"), replies(council, "")
    (True, False, False, False, [])
    >>> replies(council, "held\\nask 2")
    raises BadLine(number=1)
    >>> replies((3, (2,), (1,)), "hello")
    raises Lost(number=1)
"""


def functions():
    """All that the interface lists, by name."""
    found = {function.__name__: function for function in calls.parameters()}
    found["Board"] = board.Board
    return found


class Examples(unittest.TestCase):

    def run_examples(self, text):
        names = functions()
        self.assertGreater(text.count(">>>"), 4)
        rows = [row.strip() for row in text.strip().splitlines()]
        for row, reply in zip(rows, rows[1:] + [""]):
            if not row.startswith(">>> "):
                continue
            with self.subTest(row):
                if reply.startswith("raises "):
                    self.check_raises(row[4:], reply[7:], names)
                elif reply == "" or reply.startswith(">>> "):
                    exec(row[4:], names)
                else:
                    self.assertEqual(repr(eval(row[4:], names)), reply)

    def check_raises(self, row, reply, names):
        name, told = reply.rstrip(")").split("(")
        with self.assertRaises(getattr(errors, name)) as caught:
            eval(row, names)
        self.assertEqual(", ".join(f"{key}={part!r}" for key, part in vars(caught.exception).items()), told)

    def test_councils(self):
        self.run_examples(COUNCILS)

    def test_voices(self):
        self.run_examples(VOICES)

    def test_follows(self):
        self.run_examples(FOLLOWS)

    def test_ranges(self):
        self.run_examples(RANGES)

    def test_gates(self):
        self.run_examples(GATES)

    def test_sums(self):
        self.run_examples(SUMS)

    def test_between(self):
        self.run_examples(BETWEEN)

    def test_orders(self):
        self.run_examples(ORDERS)

    def test_unknown(self):
        self.run_examples(UNKNOWN)

    def test_bounds(self):
        self.run_examples(BOUNDS)

    def test_lots(self):
        self.run_examples(LOTS)

    def test_pulls(self):
        self.run_examples(PULLS)

    def test_houses(self):
        self.run_examples(HOUSES)

    def test_buyers(self):
        self.run_examples(BUYERS)

    def test_rounds(self):
        self.run_examples(ROUNDS)

    def test_judge(self):
        self.run_examples(JUDGE)

    def test_texts(self):
        self.run_examples(TEXTS)

    def test_board(self):
        self.run_examples(BOARD)

    def test_desk(self):
        self.run_examples(DESK)


if __name__ == "__main__":
    unittest.main()
