"""The functions of the interface, with calls of each: what they return or raise is held against other ways to call."""

from tests import calls_more
from whomheeds import between, bounds, councils, errors, follows, gates, lots, orders, ranges, sums, unknown, voices

SIGNATURES = {
    councils: """is_council(thing) askers(council) firm_ones(council) asked_by(council,member) arcs_of(council)
        is_road(council,thing) reached(council,member) reaching(council,member) roads(council,member,goal)
        shortest_road(council,member,goal) lost(council) is_sound(council) needed_arcs(council) in_rings(council)
        shortest_ring(council,asker) together(council) with_firm(council,number) with_asker(council,some)
        with_arc(council,asker,goal) without_arc(council,asker,goal) made_firm(council,member,number)
        made_asker(council,member,some) without_member(council,member) renumbered(council,order)
        put_beside(one,other) part_of(council,member)""",
    voices: """is_weights(council,thing) equal_weights(council) louder(council,weights,asker,number)
        with_weight(council,weights,asker,member,number) plain_weights(council,weights)
        whole_weights(council,parts) mean_of(council,weights,voice,asker) off_means(council,weights,voice)
        voice_by(council,weights) is_voice(council,weights,thing) share(council,weights,member,firm)
        shares(council,weights,member) same_shares(council,weights,other) total_weight(council,weights)
        weight_to(council,weights,member,firm) sum_at(council,weights,total) wish_at(council,weights,wish)""",
    follows: """is_following(council,thing) ends_of(council,following) product_of(council,weights,following)
        how_many(council) how_many_with(council,choices) how_many_ending(council,member,firm)
        all_followings(council) nth_following(council,number) place_of(council,following)
        goes_on(council,choices) shut_in(council,choices) completed(council,choices)
        turned(council,following,asker,member) changes(council,one,other) is_changes(council,one,other,thing)
        dead_arcs(council) sure_arcs(council) price_of(council,prices,following)
        cheapest_following(council,prices) laying(council,prices) is_laying(council,prices,thing)""",
    ranges: """ends_at(council,member) least_held(council,member) greatest_held(council,member)
        can_hold(council,member,fraction) always_above(council,member,number) always_from(council,member,number)
        low_weights(council,member,number) is_low(council,member,number,thing) best_following(council,word)
        is_best(council,word,thing) plain_value(council,word,total)""",
    gates: """gates(council,member) is_gate(council,member,other) next_gate(council,member) leader(council,member)
        led_by(council,member) common_gates(council,some) lots_by_leader(council)
        alike_always(council,one,other) alike(council,one,other) lots_alike(council)
        apart_roads(council,one,other) unlike_roads(council,one,other) is_apart_roads(council,one,other,thing)
        is_unlike_roads(council,one,other,thing) parting_arcs(council,one,other)""",
    sums: """value_at(council,following,total) least_value(council,total) greatest_value(council,total)
        sign_of(council,total) holds(council,total,number) beside(council,member,other) surely_below(council)
        against(council,total,number) is_against(council,total,number,thing) loud(council,following,number)
        weights_against(council,total,number) is_weights_against(council,total,number,thing)
        least_wish(council,wish) greatest_wish(council,wish) sign_of_wish(council,wish)
        against_wish(council,wish,number) is_against_wish(council,wish,number,thing) wish_of(council,total)""",
    between: """comes(council,total,fraction) weights_for(council,total,fraction)
        is_weights_for(council,total,fraction,thing) set_row(council,weights,asker,row)
        mixed(council,weights,asker,row,part) way_of(council,weights,asker,row,total)
        crossing(council,weights,asker,row,total,fraction) steps_between(council,weights,later)
        step_at(council,weights,later,total,fraction) between_weights(council,weights,later,total,fraction)""",
    orders: """misfits(council,voice) can_be_voice(council,voice) weights_of_voice(council,voice)
        is_weights_of(council,voice,thing) may_hold(council,voice,asker) mended_by(council,voice)
        is_order(council,thing) order_of(council,voice) is_let(council,order) voice_with(council,order)
        is_voice_with(council,order,thing) all_orders(council) how_they_stand(council,one,other)""",
    unknown: """is_told_order(council,thing) is_in_order(council,order,thing) upward_sets(council,order)
        holds_in_order(council,order,total) holds_from_zero(council,order,total)
        against_in_order(council,order,total) is_against_in_order(council,order,total,thing)
        against_from_zero(council,order,total) is_against_from_zero(council,order,total,thing)
        is_nothing_in_order(council,order,total) idle_pairs(council,order,total) at_most(council,order,one,other)
        needed_pairs(council,one,other) least_by_firm(council,bounds,total) greatest_by_firm(council,bounds,total)
        stretch_by_firm(council,bounds,member)""",
    bounds: """is_bounds(council,thing) fit_bounds(council,bounds,weights) narrower(council,bounds,other)
        is_corner(council,bounds,thing) how_many_corners(council,bounds) nth_corner(council,bounds,number)
        highest_voice(council,bounds) lowest_voice(council,bounds) highest_corner(council,bounds)
        lowest_corner(council,bounds) is_highest(council,bounds,thing) is_lowest(council,bounds,thing)
        may_hold_within(council,bounds,member,fraction) least_within(council,bounds,total)
        greatest_within(council,bounds,total) corner_of_least(council,bounds,total)
        corner_of_greatest(council,bounds,total) against_within(council,bounds,total)
        is_against_within(council,bounds,total,thing) weights_within(council,bounds,total,fraction)
        is_weights_within(council,bounds,total,fraction,thing)""",
    lots: """is_heeds(council,thing) all_heeds(council,heeds) needless_heeds(council,heeds)
        keeps_heeds(council,heeds,weights) lots_of(council,heeds,asker) all_lots(council,heeds)
        value_by_lots(council,lots,total) heeded(council,heeds,total) holds_heeded(council,heeds,total,number)
        strictly_heeded(council,heeds,total,number) heeding_against(council,heeds,total,number)
        is_heeding_against(council,heeds,total,number,thing) heeding_weights(council,heeds,total,fraction)
        is_heeding(council,heeds,total,fraction,thing) high_lots(council,heeds) low_lots(council,heeds)
        is_high_lots(council,heeds,thing) is_low_lots(council,heeds,thing) heeded_range(council,heeds,member)""",
    **calls_more.SIGNATURES,
}

# The functions that return a list.
LISTING = (councils.roads, follows.all_followings, sums.surely_below, between.steps_between, orders.all_orders,
           unknown.upward_sets, lots.lots_of, lots.all_lots) + calls_more.LISTING


def parameters():
    """A dict with, for each function, the tuple of its arguments' names."""
    found = {}
    for module, text in SIGNATURES.items():
        for word in text.split():
            name, told = word.rstrip(")").split("(")
            found[getattr(module, name)] = tuple(told.split(","))
    return found


C = (0, 12, (0, 3), (1, 2), 7)
W = ((), (), (1, 2), (1, 1), ())
V = ((0, 1), (12, 1), (6, 1), (9, 1), (7, 1))
OFF = ((0, 1), (12, 1), (1, 2), (3, 1), (-7, 1))
PRICES = ((), (), (4, 1), (3, 2), ())
FIRST, SECOND, THIRD = (0, 1, 0, 1, 4), (0, 1, 0, 2, 4), (0, 1, 3, 1, 4)
GAP, FIRST_ASKER = (0, 0, -1, 1, 0), (0, 0, 1, 0, 0)
SUCH = ((3, 0, 1), (2, 1, 1), (3, 0, 1))
LATER = ((), (), (4, 1), (1, 9), ())
FIT = ((0, 1), (12, 1), (8, 1), (9, 1), (7, 1))
ORDER = ((0,), (2,), (3, 4), (1,))
LET = ((0,), (2,), (4,), (3,), (1,))
TOLD, BOTH_WAYS = ((0, 1),), ((0, 1), (1, 0))
STRETCH = ((0, -1, 2), (4, 7, 9))
BOUNDS, WIDE_BOUNDS = ((), (), ((1, 2), (1, 1)), ((1, 1), (2, 3)), ()), ((), (), ((1, 3), (1, 2)), ((1, 1), (1, 3)), ())
CORNER = ((), (), (2, 1), (1, 2), ())
HEEDS = ((2, 0, 3),)
LOTS, SHUT = ((), (), (0, 3), (1,), ()), ((), (), (3,), (2,), ())

ERRORS = tuple(part for part in vars(errors).values() if isinstance(part, type))

# What is handed in behind the COUNCIL C, one call or more for each function; those that raise, too.
CALLS = {
    councils.asked_by: [(3,), (4,), (-1,)],
    councils.askers: [()], councils.firm_ones: [()], councils.arcs_of: [()],
    councils.is_road: [((2, 3, 1),), ((3, 3),)],
    councils.reached: [(2,), (5,)], councils.reaching: [(0,), (5,)],
    councils.roads: [(2, 1), (2, 2), (0, 1), (2, 5)],
    councils.shortest_road: [(2, 1), (0, 1), (-1, 1)],
    councils.lost: [()], councils.is_sound: [()], councils.needed_arcs: [()], councils.in_rings: [()],
    councils.shortest_ring: [(2,), (0,), (5,)],
    councils.together: [()],
    councils.with_firm: [(-5,)],
    councils.with_asker: [((1, 3),), ((),), ((1, 5),)],
    councils.with_arc: [(2, 1), (2, 0), (2, 2), (0, 1), (2, 5)],
    councils.without_arc: [(2, 0), (2, 1), (0, 1), (2, 5)],
    councils.made_firm: [(2, 8), (0, 8), (5, 8)],
    councils.made_asker: [(2, (1, 4)), (0, (3,)), (2, (1, 2)), (2, ()), (2, (1, 5))],
    councils.without_member: [(4,), (0,), (5,)],
    councils.renumbered: [((4, 2, 0, 1, 3),), ((4, 2, 0, 1, 1),), ((4, 2, 0, 1, 5),)],
    councils.put_beside: [((3, (0, 2), (0, 1)),)],
    councils.part_of: [(2,), (0,), (5,)],
    voices.is_weights: [(W,), (PRICES[::-1],)],
    voices.equal_weights: [()],
    voices.louder: [(W, 2, 5), (W, 1, 5), (W, 5, 5)],
    voices.with_weight: [(W, 3, 1, 3), (W, 3, 0, 3), (W, 0, 1, 3), (W, 3, 5, 3)],
    voices.plain_weights: [(((), (), (4, 6), (3, 3), ()),)],
    voices.whole_weights: [(((), (), ((1, 2), (2, 3)), ((1, 1), (1, 4)), ()),)],
    voices.mean_of: [(W, OFF, 2), (W, OFF, 1), (W, OFF, 5)],
    voices.off_means: [(W, OFF), (W, V)],
    voices.voice_by: [(W,)],
    voices.is_voice: [(W, V), (W, OFF)],
    voices.share: [(W, 3, 1), (W, 1, 1), (W, 3, 2), (W, 3, 5)],
    voices.shares: [(W, 2), (W, 1), (W, 5)],
    voices.same_shares: [(W, ((), (), (2, 4), (3, 3), ())), (W, ((), (), (2, 5), (3, 3), ()))],
    voices.total_weight: [(W,)],
    voices.weight_to: [(W, 2, 1), (W, 0, 1), (W, 2, 3), (W, -1, 3)],
    voices.sum_at: [(W, (0, 0, 1, -1, 2))],
    voices.wish_at: [(W, ((3, 0, -2), (2, 1, 4), (3, 0, -2))), (W, ()), (W, ((3, 0, 1), (3, 2, 1))), (W, ((3, 5, 1),))],
    follows.is_following: [(FIRST,), ((0, 1, 3, 2, 4),)],
    follows.ends_of: [(THIRD,)],
    follows.product_of: [(W, THIRD)],
    follows.how_many: [()],
    follows.how_many_with: [(((3, 1),),), ((),), (((3, 0),),), (((3, 1), (4, 1)),), (((3, 5),),)],
    follows.how_many_ending: [(3, 1), (3, 4), (3, 2), (3, 5)],
    follows.all_followings: [()],
    follows.nth_following: [(2,), (3,), (-1,)],
    follows.place_of: [(THIRD,)],
    follows.goes_on: [(((2, 3), (3, 2)),), (((3, 2),),), (((3, 0),),), (((1, 0),),), (((3, 5),),)],
    follows.shut_in: [(((2, 3), (3, 2)),), (((3, 2),),), (((3, 0),),), (((1, 0),),), (((3, 5),),)],
    follows.completed: [(((2, 3), (3, 2)),), (((3, 2),),), (((3, 0),),), (((1, 0),),), (((3, 5),),)],
    follows.turned: [(FIRST, 2, 3), (SECOND, 2, 3), (SECOND, 2, 1), (SECOND, 1, 2), (SECOND, 2, 5)],
    follows.changes: [(SECOND, THIRD), (FIRST, FIRST)],
    follows.is_changes: [(SECOND, THIRD, (SECOND, FIRST, THIRD)), (SECOND, THIRD, (SECOND, THIRD))],
    follows.dead_arcs: [()], follows.sure_arcs: [()],
    follows.price_of: [(PRICES, SECOND)],
    follows.cheapest_following: [(PRICES,)],
    follows.laying: [(PRICES,)],
    follows.is_laying: [(PRICES, (((2,), 1), ((2, 3), 1), ((3,), 2))), (PRICES, (((2,), 1),))],

    ranges.ends_at: [(2,), (4,), (5,)], ranges.least_held: [(2,), (-1,)], ranges.greatest_held: [(3,), (5,)],
    ranges.can_hold: [(2, (7, 2)), (2, (12, 1)), (4, (7, 1)), (5, (7, 1))],
    ranges.always_above: [(2, 0), (2, 1), (-1, 0)], ranges.always_from: [(3, 0), (3, 1), (5, 0)],
    ranges.low_weights: [(2, 1), (2, 0), (4, 7), (5, 1)],
    ranges.is_low: [(2, 6, W), (2, 5, W), (2, 5, W[1:]), (5, 5, W)],
    ranges.best_following: [("least",), ("greatest",), ("most",)],
    ranges.is_best: [("least", SECOND), ("greatest", SECOND), ("", SECOND)],
    ranges.plain_value: [("least", (3, -1, 0, 2, 0)), ("greatest", (3, -1, 0, 2, 0)), ("least", GAP), ("Least", GAP)],
    gates.gates: [(2,), (0,), (5,)], gates.is_gate: [(2, 2), (2, 3), (2, 5)], gates.next_gate: [(2,), (-1,)],
    gates.leader: [(3,), (5,)], gates.led_by: [(3,), (0,), (5,)],
    gates.common_gates: [((2, 2),), ((2, 3),), ((3,),), ((2, 5),)], gates.lots_by_leader: [()],
    gates.alike_always: [(2, 2), (2, 3), (5, 3)], gates.alike: [(2, 2), (2, 3), (2, -1)], gates.lots_alike: [()],
    gates.apart_roads: [(2, 3), (2, 2), (4, 0), (2, 5)], gates.unlike_roads: [(2, 3), (2, 2), (2, 5)],
    gates.is_apart_roads: [(2, 3, ((2, 0), (3, 1))), (2, 3, ((2, 3, 1), (3, 2, 0))), (2, 5, None)],
    gates.is_unlike_roads: [(2, 3, ((2, 0), (3, 1))), (2, 3, ((3, 1), (2, 0))), (2, 5, None)],
    gates.parting_arcs: [(2, 3), (2, 2), (2, 5)],
    sums.value_at: [(THIRD, GAP)], sums.least_value: [(GAP,)], sums.greatest_value: [(GAP,)], sums.sign_of: [(GAP,)],
    sums.holds: [(GAP, 0), (GAP, 1)], sums.beside: [(2, 3), (2, 2), (4, 2), (2, 5)], sums.surely_below: [()],
    sums.against: [(GAP, 1), (GAP, 0)], sums.is_against: [(GAP, 1, SECOND), (GAP, 1, FIRST), (GAP, 1, FIRST[1:])],
    sums.loud: [(SECOND, 10)], sums.weights_against: [(GAP, 1), (GAP, 0)],
    sums.is_weights_against: [(GAP, 4, W), (GAP, 3, W), (GAP, 4, W[1:])],
    sums.least_wish: [(SUCH,), (((3, 2, 1),),), (((3, 5, 1),),)], sums.greatest_wish: [(SUCH,), ((),)],
    sums.sign_of_wish: [(SUCH,), ((),)], sums.against_wish: [(SUCH, 1), (SUCH, 0), (((-1, 2, 1),), 0)],
    sums.is_against_wish: [(SUCH, 1, FIRST), (SUCH, 0, FIRST), (((0, 2, 1),), 0, FIRST)], sums.wish_of: [(GAP,)],
    between.comes: [(GAP, (1, 2)), (GAP, (0, 1))], between.weights_for: [(GAP, (1, 2)), (GAP, (0, 1))],
    between.is_weights_for: [(GAP, (3, 1), W), (GAP, (2, 1), W), (GAP, (3, 1), W[1:])],
    between.set_row: [(W, 2, (5, 6)), (W, 1, ()), (W, 5, ())],
    between.mixed: [(W, 2, (4, 1), (1, 3)), (W, 2, (4, 8), (1, 1)), (W, 1, (), (0, 1)), (W, 5, (), (0, 1))],
    between.way_of: [(W, 2, (4, 1), FIRST_ASKER), (W, 2, (1, 2), GAP), (W, 0, (), GAP), (W, 5, (), GAP)],
    between.crossing: [(W, 2, (4, 1), FIRST_ASKER, (4, 1)), (W, 2, (4, 1), FIRST_ASKER, (7, 1)),
                       (W, 0, (), GAP, (0, 1)), (W, 5, (), GAP, (0, 1))],
    between.steps_between: [(W, LATER)],
    between.step_at: [(W, LATER, FIRST_ASKER, (4, 1)), (W, LATER, FIRST_ASKER, (11, 1))],
    between.between_weights: [(W, LATER, FIRST_ASKER, (4, 1)), (W, LATER, FIRST_ASKER, (6, 1)),
                              (W, LATER, FIRST_ASKER, (11, 1))],

    orders.misfits: [(FIT,), (V,), (OFF,)], orders.can_be_voice: [(FIT,), (OFF,)],
    orders.weights_of_voice: [(FIT,), (((0, 1), (12, 1), (1, 2), (1, 3), (7, 1)),), (OFF,)],
    orders.is_weights_of: [(V, W), (FIT, W), (V, W[1:]), (OFF, W)],
    orders.may_hold: [(FIT, 2), (V, 3), (V, 0), (OFF, 2), (V, 5)], orders.mended_by: [(V,), (OFF,)],
    orders.is_order: [(ORDER,), (ORDER[::-1],)], orders.order_of: [(V,), (OFF,)], orders.is_let: [(LET,), (((0,), (3,), (2, 4), (1,)),)],
    orders.voice_with: [(LET,), (((0,), (3,), (2, 4), (1,)),), (((0, 5), (1,)),)],
    orders.is_voice_with: [(LET, V), (((0,), (2,), (4,), (3,), (1,)), OFF), (((0, 5), (1,)), V)],
    orders.all_orders: [()], orders.how_they_stand: [(2, 3), (2, 4), (3, 3), (0, 1), (2, 5)],
    unknown.is_told_order: [(TOLD,), (((0, 2),),)],
    unknown.is_in_order: [(TOLD, ((0, 1), (1, 1), (4, 0))), (TOLD, ((0, 2), (1, 1), (4, 0))), (((0, 2),), None)],
    unknown.upward_sets: [(TOLD,), ((),), (((0, 2),),), (((0, 5),),)],
    unknown.holds_in_order: [(TOLD, GAP), ((), GAP), (((3, 0),), GAP)],
    unknown.holds_from_zero: [(TOLD, FIRST_ASKER), ((), GAP), (((3, 0),), GAP)],
    unknown.against_in_order: [(TOLD, GAP), ((), GAP), (TOLD, FIRST_ASKER), (((3, 0),), GAP)],
    unknown.is_against_in_order: [((), GAP, (FIRST, ((0, 1), (1, 0), (4, 0)))), (TOLD, GAP, (FIRST, ())),
                                  (((3, 0),), GAP, None)],
    unknown.against_from_zero: [(TOLD, GAP), ((), GAP), (((0, 9),), GAP)],
    unknown.is_against_from_zero: [((), GAP, (FIRST, ((0, 1), (1, 0), (4, 0)))),
                                   ((), GAP, (FIRST, ((0, 0), (1, -1), (4, 0)))), (((9, 0),), GAP, None)],
    unknown.is_nothing_in_order: [(BOTH_WAYS, GAP), (TOLD, GAP), (((0, 2),), GAP)],
    unknown.idle_pairs: [(BOTH_WAYS, GAP), ((), GAP), (((0, 2),), GAP)],
    unknown.at_most: [(TOLD, 2, 3), ((), 2, 3), (TOLD, 2, 5), (((0, 2),), 2, 3)],
    unknown.needed_pairs: [(2, 3), (2, 2), (2, 5)],
    unknown.least_by_firm: [(STRETCH, GAP), ((), GAP), (((2, 0, 1),), GAP)],
    unknown.greatest_by_firm: [(STRETCH, GAP), ((), GAP), (((5, 0, 1),), GAP)],
    unknown.stretch_by_firm: [(STRETCH, 3), (STRETCH, 4), (STRETCH, 5), (((3, 1, 1),), 2)],
    bounds.is_bounds: [(BOUNDS,), (W,)], bounds.fit_bounds: [(BOUNDS, CORNER), (BOUNDS, W)],
    bounds.narrower: [(BOUNDS, WIDE_BOUNDS), (WIDE_BOUNDS, BOUNDS)],
    bounds.is_corner: [(BOUNDS, CORNER), (BOUNDS, W)], bounds.how_many_corners: [(BOUNDS,), (WIDE_BOUNDS,)],
    bounds.nth_corner: [(BOUNDS, 2), (BOUNDS, 4), (BOUNDS, -1)],
    bounds.highest_voice: [(BOUNDS,)], bounds.lowest_voice: [(WIDE_BOUNDS,)],
    bounds.highest_corner: [(BOUNDS,)], bounds.lowest_corner: [(WIDE_BOUNDS,)],
    bounds.is_highest: [(BOUNDS, ((), (), (3, 3), (1, 2), ())), (BOUNDS, ((), (), (3, 3), (2, 3), ())), (BOUNDS, None)],
    bounds.is_lowest: [(BOUNDS, ((), (), (4, 2), (1, 3), ())), (BOUNDS, ((), (), (3, 3), (1, 2), ())), (BOUNDS, ())],
    bounds.may_hold_within: [(BOUNDS, 2, (2, 1)), (BOUNDS, 2, (11, 1)), (BOUNDS, 5, (2, 1))],
    bounds.least_within: [(BOUNDS, GAP)], bounds.greatest_within: [(BOUNDS, GAP)],
    bounds.corner_of_least: [(BOUNDS, GAP)], bounds.corner_of_greatest: [(BOUNDS, GAP)],
    bounds.against_within: [(BOUNDS, GAP), (BOUNDS, (0, 1, -9, 0, 0))],
    bounds.is_against_within: [(BOUNDS, (0, 1, -9, 0, 0), CORNER), (BOUNDS, GAP, CORNER), (BOUNDS, GAP, W)],
    bounds.weights_within: [(BOUNDS, GAP, (5, 2)), (BOUNDS, GAP, (9, 1))],
    bounds.is_weights_within: [(BOUNDS, GAP, (3, 2), CORNER), (BOUNDS, GAP, (7, 4), CORNER), (BOUNDS, GAP, (1, 1), W)],
    lots.is_heeds: [(HEEDS,), (((2, 0, 0),),)], lots.all_heeds: [(HEEDS,), (((1, 0, 3),),), (((2, 5, 3),),)],
    lots.needless_heeds: [(HEEDS,), (((1, 0, 3),),), (((2, 5, 3),),)],
    lots.keeps_heeds: [(HEEDS, W), (HEEDS, LATER), (((1, 0, 3),), W), (((2, 5, 3),), W)],
    lots.lots_of: [(HEEDS, 2), (HEEDS, 3), (HEEDS, 0), (HEEDS, 5), (((2, 5, 3),), 2)],
    lots.all_lots: [(HEEDS,), (((1, 0, 3),),)],
    lots.value_by_lots: [(LOTS, GAP), (SHUT, GAP), (((), (), (5,), (), ()), GAP)],
    lots.heeded: [(HEEDS, GAP), ((), GAP), (((1, 0, 3),), GAP)],
    lots.holds_heeded: [(HEEDS, GAP, 3), (HEEDS, GAP, 7), (((1, 0, 3),), GAP, 0)],
    lots.strictly_heeded: [(HEEDS, GAP, 3), (HEEDS, GAP, 7), (((1, 0, 3),), GAP, 0)],
    lots.heeding_against: [(HEEDS, GAP, 3), (HEEDS, GAP, 7), (((1, 0, 3),), GAP, 0)],
    lots.is_heeding_against: [(HEEDS, GAP, 7, LATER), (HEEDS, GAP, 7, W), (((1, 0, 3),), GAP, 0, W)],
    lots.heeding_weights: [(HEEDS, GAP, (7, 1)), (HEEDS, GAP, (0, 1)), (((1, 0, 3),), GAP, (0, 1))],
    lots.is_heeding: [(HEEDS, GAP, (1, 1), LATER), (HEEDS, GAP, (3, 1), W), (((1, 0, 3),), GAP, (0, 1), W)],
    lots.high_lots: [(HEEDS,), ((),), (((1, 0, 3),),)], lots.low_lots: [(HEEDS,), ((),), (((2, 5, 3),),)],
    lots.is_high_lots: [(HEEDS, LOTS), (HEEDS, SHUT), (((1, 0, 3),), LOTS)],
    lots.is_low_lots: [(HEEDS, ((), (), (0,), (2,), ())), (HEEDS, SHUT), (((1, 0, 3),), LOTS)],
    lots.heeded_range: [(HEEDS, 2), (HEEDS, 4), (HEEDS, 5), (((1, 0, 3),), 2)],
}


def all_calls():
    """Pairs (function, the arguments of one call)."""
    found = [(councils.is_council, (C,)), (councils.is_council, ((5, (0, 0)),))]
    found += [(function, (C,) + more) for rows in (CALLS, calls_more.CALLS) for function, some in rows.items()
              for more in some]
    found += calls_more.WHOLE
    # Some that need a COUNCIL of another kind.
    lost, dead = (5, (2,), (1,)), (5, (0, 2), (1,))
    found += [(councils.needed_arcs, (lost,)), (councils.lost, (lost,)), (councils.together, (lost,))]
    found += [(councils.shortest_ring, (dead, 1)), (follows.dead_arcs, (dead,)), (follows.sure_arcs, (dead,))]
    found += [(voices.voice_by, (lost, ((), (1,), (1,)))), (follows.all_followings, (lost,))]
    kin, split = ((1,), (2, 3), (1, 3), (4, 5), 6, 2), ((1, 2), (2, 4), (1, 3), 6, 6)
    found += [(gates.gates, (kin, 0)), (gates.common_gates, (kin, (0, 2))), (gates.alike, (split, 1, 2))]
    found += [(gates.parting_arcs, (((1,), (2, 3), 0, 1), 0, 1)), (gates.unlike_roads, (split, 1, 2))]
    found += [(bounds.how_many_corners, (lost, ((), ((1, 2),), ((3, 3),)))), (bounds.highest_voice, (lost, ()))]
    found += [(lots.heeded, (((1, 2), 6, 0), ((0, 1, 2),), (1, 0, 0))), (lots.heeded, (lost, (), (0, 0, 0)))]
    return found


def outcome(function, arguments, names=()):
    """What comes of the call, as a text that tells True from 1 and lists from tuples."""
    try:
        if names:
            return repr(function(**dict(zip(names, arguments))))
        return repr(function(*arguments))
    except ERRORS as error:
        return f"raises {error.__class__.__name__} {vars(error)!r}"
