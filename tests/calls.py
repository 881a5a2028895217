"""The functions of the interface, with calls of each: what they return or raise is held against other ways to call."""

from whomheeds import councils, errors, follows, voices

SIGNATURES = {
    councils: """is_council(thing) askers(council) firm_ones(council) asked_by(council,member) arcs_of(council)
        is_road(council,thing) reached(council,member) reaching(council,member) roads(council,member,goal)
        shortest_road(council,member,goal) lost(council) is_sound(council) needed_arcs(council) in_rings(council)
        shortest_ring(council,asker) together(council) with_firm(council,number) with_asker(council,some)
        with_arc(council,asker,goal) without_arc(council,asker,goal) made_firm(council,member,number)
        made_asker(council,member,some) without_member(council,member) renumbered(council,order)
        put_beside(one,other) part_of(council,member)""",
    voices: """is_weights(council,thing) equal_weights(council) louder(council,weights,asker,number)
        with_weight(council,weights,asker,member,number) plain_weights(council,weights)
        whole_weights(council,parts) mean_of(council,weights,voice,asker) off_means(council,weights,voice)
        voice_by(council,weights) is_voice(council,weights,thing) share(council,weights,member,firm)
        shares(council,weights,member) same_shares(council,weights,other) total_weight(council,weights)
        weight_to(council,weights,member,firm) sum_at(council,weights,total) wish_at(council,weights,wish)""",
    follows: """is_following(council,thing) ends_of(council,following) product_of(council,weights,following)
        how_many(council) how_many_with(council,choices) how_many_ending(council,member,firm)
        all_followings(council) nth_following(council,number) place_of(council,following)
        goes_on(council,choices) shut_in(council,choices) completed(council,choices)
        turned(council,following,asker,member) changes(council,one,other) is_changes(council,one,other,thing)
        dead_arcs(council) sure_arcs(council) price_of(council,prices,following)
        cheapest_following(council,prices) laying(council,prices) is_laying(council,prices,thing)""",
}


def parameters():
    """A dict with, for each function, the tuple of its arguments' names."""
    found = {}
    for module, text in SIGNATURES.items():
        for word in text.split():
            name, told = word.rstrip(")").split("(")
            found[getattr(module, name)] = tuple(told.split(","))
    return found


C = (0, 12, (0, 3), (1, 2), 7)
W = ((), (), (1, 2), (1, 1), ())
V = ((0, 1), (12, 1), (6, 1), (9, 1), (7, 1))
OFF = ((0, 1), (12, 1), (1, 2), (3, 1), (-7, 1))
PRICES = ((), (), (4, 1), (3, 2), ())
FIRST, SECOND, THIRD = (0, 1, 0, 1, 4), (0, 1, 0, 2, 4), (0, 1, 3, 1, 4)

ERRORS = tuple(part for part in vars(errors).values() if isinstance(part, type))

# What is handed in behind the COUNCIL C, one call or more for each function; those that raise, too.
CALLS = {
    councils.asked_by: [(3,), (4,), (-1,)],
    councils.askers: [()], councils.firm_ones: [()], councils.arcs_of: [()],
    councils.is_road: [((2, 3, 1),), ((3, 3),)],
    councils.reached: [(2,), (5,)], councils.reaching: [(0,), (5,)],
    councils.roads: [(2, 1), (2, 2), (0, 1), (2, 5)],
    councils.shortest_road: [(2, 1), (0, 1), (-1, 1)],
    councils.lost: [()], councils.is_sound: [()], councils.needed_arcs: [()], councils.in_rings: [()],
    councils.shortest_ring: [(2,), (0,), (5,)],
    councils.together: [()],
    councils.with_firm: [(-5,)],
    councils.with_asker: [((1, 3),), ((),), ((1, 5),)],
    councils.with_arc: [(2, 1), (2, 0), (2, 2), (0, 1), (2, 5)],
    councils.without_arc: [(2, 0), (2, 1), (0, 1), (2, 5)],
    councils.made_firm: [(2, 8), (0, 8), (5, 8)],
    councils.made_asker: [(2, (1, 4)), (0, (3,)), (2, (1, 2)), (2, ()), (2, (1, 5))],
    councils.without_member: [(4,), (0,), (5,)],
    councils.renumbered: [((4, 2, 0, 1, 3),), ((4, 2, 0, 1, 1),), ((4, 2, 0, 1, 5),)],
    councils.put_beside: [((3, (0, 2), (0, 1)),)],
    councils.part_of: [(2,), (0,), (5,)],
    voices.is_weights: [(W,), (PRICES[::-1],)],
    voices.equal_weights: [()],
    voices.louder: [(W, 2, 5), (W, 1, 5), (W, 5, 5)],
    voices.with_weight: [(W, 3, 1, 3), (W, 3, 0, 3), (W, 0, 1, 3), (W, 3, 5, 3)],
    voices.plain_weights: [(((), (), (4, 6), (3, 3), ()),)],
    voices.whole_weights: [(((), (), ((1, 2), (2, 3)), ((1, 1), (1, 4)), ()),)],
    voices.mean_of: [(W, OFF, 2), (W, OFF, 1), (W, OFF, 5)],
    voices.off_means: [(W, OFF), (W, V)],
    voices.voice_by: [(W,)],
    voices.is_voice: [(W, V), (W, OFF)],
    voices.share: [(W, 3, 1), (W, 1, 1), (W, 3, 2), (W, 3, 5)],
    voices.shares: [(W, 2), (W, 1), (W, 5)],
    voices.same_shares: [(W, ((), (), (2, 4), (3, 3), ())), (W, ((), (), (2, 5), (3, 3), ()))],
    voices.total_weight: [(W,)],
    voices.weight_to: [(W, 2, 1), (W, 0, 1), (W, 2, 3), (W, -1, 3)],
    voices.sum_at: [(W, (0, 0, 1, -1, 2))],
    voices.wish_at: [(W, ((3, 0, -2), (2, 1, 4), (3, 0, -2))), (W, ()), (W, ((3, 0, 1), (3, 2, 1))), (W, ((3, 5, 1),))],
    follows.is_following: [(FIRST,), ((0, 1, 3, 2, 4),)],
    follows.ends_of: [(THIRD,)],
    follows.product_of: [(W, THIRD)],
    follows.how_many: [()],
    follows.how_many_with: [(((3, 1),),), ((),), (((3, 0),),), (((3, 1), (4, 1)),), (((3, 5),),)],
    follows.how_many_ending: [(3, 1), (3, 4), (3, 2), (3, 5)],
    follows.all_followings: [()],
    follows.nth_following: [(2,), (3,), (-1,)],
    follows.place_of: [(THIRD,)],
    follows.goes_on: [(((2, 3), (3, 2)),), (((3, 2),),), (((3, 0),),), (((1, 0),),), (((3, 5),),)],
    follows.shut_in: [(((2, 3), (3, 2)),), (((3, 2),),), (((3, 0),),), (((1, 0),),), (((3, 5),),)],
    follows.completed: [(((2, 3), (3, 2)),), (((3, 2),),), (((3, 0),),), (((1, 0),),), (((3, 5),),)],
    follows.turned: [(FIRST, 2, 3), (SECOND, 2, 3), (SECOND, 2, 1), (SECOND, 1, 2), (SECOND, 2, 5)],
    follows.changes: [(SECOND, THIRD), (FIRST, FIRST)],
    follows.is_changes: [(SECOND, THIRD, (SECOND, FIRST, THIRD)), (SECOND, THIRD, (SECOND, THIRD))],
    follows.dead_arcs: [()], follows.sure_arcs: [()],
    follows.price_of: [(PRICES, SECOND)],
    follows.cheapest_following: [(PRICES,)],
    follows.laying: [(PRICES,)],
    follows.is_laying: [(PRICES, (((2,), 1), ((2, 3), 1), ((3,), 2))), (PRICES, (((2,), 1),))],
}


def all_calls():
    """Pairs (function, the arguments of one call)."""
    found = [(councils.is_council, (C,)), (councils.is_council, ((5, (0, 0)),))]
    found += [(function, (C,) + more) for function, rows in CALLS.items() for more in rows]
    # Some that need a COUNCIL of another kind.
    lost, dead = (5, (2,), (1,)), (5, (0, 2), (1,))
    found += [(councils.needed_arcs, (lost,)), (councils.lost, (lost,)), (councils.together, (lost,))]
    found += [(councils.shortest_ring, (dead, 1)), (follows.dead_arcs, (dead,)), (follows.sure_arcs, (dead,))]
    found += [(voices.voice_by, (lost, ((), (1,), (1,)))), (follows.all_followings, (lost,))]
    return found


def outcome(function, arguments, names=()):
    """What comes of the call, as a text that tells True from 1 and lists from tuples."""
    try:
        if names:
            return repr(function(**dict(zip(names, arguments))))
        return repr(function(*arguments))
    except ERRORS as error:
        return f"raises {error.__class__.__name__} {vars(error)!r}"
