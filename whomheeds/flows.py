"""Flows from MEMBER to MEMBER that take each one but once: how many ROADS lead side by side, and which."""


def side_by_side(asked, last, starts):
    """A pair: the ways that are left, and the list of those of starts from which ROADS lead to those in last.

    So many ROADS as there can be, without a MEMBER in common; asked tells for each MEMBER where ROADS go on. Each
    start is tried once: one that cannot be added to some others cannot be added to these and more.
    """
    end = (len(asked), 0)
    left = ways_to(asked, last, end)
    led = []
    for start in starts:
        way = way_through(left, (start, 0), end)
        if way is not None:
            led.append(start)
            # What has been taken may be given back by a later way.
            for here, there in zip(way, way[1:]):
                del left[here][there]
                left[there][here] = True
    return (left, led)


def ways_to(asked, last, end):
    """A dict of dicts: where one may go on from each place, to this end behind those in last.

    Each MEMBER is two places: who comes to the first one passes it, and goes on from the second one.
    """
    left = {end: {}}
    for member, goals in enumerate(asked):
        left[(member, 0)] = {(member, 1): True}
        left[(member, 1)] = {(goal, 0): True for goal in goals}
    for member in last:
        left[(member, 1)][end] = True
    return left


def places_from(left, start):
    """A dict of the places to which ways lead from start, with the place ahead of each; with start that is itself."""
    came = {start: start}
    ahead = [start]
    while ahead:
        here = ahead.pop()
        for there in left[here]:
            if there not in came:
                came[there] = here
                ahead.append(there)
    return came


def way_through(left, start, end):
    """A list of places from start to end; None if no way leads there."""
    came = places_from(left, start)
    if end not in came:
        return None
    way = [end]
    while way[-1] != start:
        way.append(came[way[-1]])
    return way[::-1]


def road_taken(asked, left, start):
    """The ROAD that the flow takes from here: where it went, the way back is open."""
    road = [start]
    ahead = [start]
    while ahead:
        here = ahead.pop()
        ahead = [goal for goal in asked[here] if (here, 1) in left[(goal, 0)]]
        road.extend(ahead)
    return tuple(road)
