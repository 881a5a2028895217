"""COUNCILS: their MEMBERS and arcs, who reaches whom, and COUNCILS made of others (section 3)."""

from whomheeds.basics import are_numbers, arcs, askers_in, asks, firm_in, frozen, is_firm, is_number
from whomheeds.basics import is_set_of_numbers, lost_ones, put_at, reach_of, refuse_askers, refuse_lost
from whomheeds.basics import refuse_members, steps_to
from whomheeds.errors import Unfit


def is_council(thing):
    """Whether thing is a COUNCIL, of however many MEMBERS."""
    if not isinstance(thing, tuple) or len(thing) == 0:
        return False
    return all([is_member(part, place, len(thing)) for place, part in enumerate(thing)])


def is_member(part, place, many):
    """Whether part may stand at this place of a COUNCIL of so many MEMBERS."""
    if is_number(part):
        return True
    if not is_set_of_numbers(part) or len(part) == 0:
        return False
    return part[0] >= 0 and part[-1] < many and place not in part


def askers(council):
    """The set of the numbers of the askers."""
    return askers_in(frozen(council))


def firm_ones(council):
    """The set of the numbers of the firm MEMBERS."""
    return firm_in(frozen(council))


def asked_by(council, member):
    """The set of the askers that ask this MEMBER."""
    council = frozen(council)
    refuse_members(council, (member,))
    return tuple([number for number in range(len(council)) if member in asks(council, number)])


def arcs_of(council):
    """The set of the pairs (asker, one that it asks)."""
    return arcs(frozen(council))


def is_road(council, thing):
    """Whether thing is a ROAD."""
    council = frozen(council)
    if not are_numbers(thing) or len(thing) == 0 or len(thing) > len(council):
        return False
    if not all([0 <= number < len(council) for number in thing]) or len(set(thing)) < len(thing):
        return False
    return all([goal in asks(council, number) for number, goal in zip(thing, thing[1:])])


def reached(council, member):
    """The set of the MEMBERS that this one reaches."""
    council = frozen(council)
    refuse_members(council, (member,))
    return reach_of(council, member)


def reaching(council, member):
    """The set of the MEMBERS that reach this one."""
    council = frozen(council)
    refuse_members(council, (member,))
    return tuple(sorted(steps_to(council, (member,))))


def roads(council, member, goal):
    """The ascending list of the ROADS from member to goal."""
    council = frozen(council)
    refuse_members(council, (member, goal))
    found = []
    begun = [(member,)]
    while begun:
        road = begun.pop()
        if road[-1] == goal:
            found.append(road)
        else:
            begun.extend([road + (number,) for number in asks(council, road[-1]) if number not in road])
    return sorted(found)


def shortest_road(council, member, goal):
    """Of the ROADS from member to goal that have the fewest MEMBERS the least; None if there is none."""
    council = frozen(council)
    refuse_members(council, (member, goal))
    return nearest_road(council, (member,), (goal,))


def nearest_road(council, starts, goals):
    """Of the ROADS from one of starts to one of goals that have the fewest MEMBERS the least, or None."""
    steps = steps_to(council, goals)
    road = []
    ahead = [number for number in starts if number in steps]
    while ahead:
        fewest = min([steps[number] for number in ahead])
        road.append(min([number for number in ahead if steps[number] == fewest]))
        ahead = [number for number in asks(council, road[-1]) if steps.get(number, fewest) < fewest]
    return tuple(road) if road else None


def lost(council):
    """The set of the askers that reach no firm one."""
    return lost_ones(frozen(council))


def is_sound(council):
    """Whether each asker reaches a firm one."""
    return lost_ones(frozen(council)) == ()


def needed_arcs(council):
    """The set of the arcs of a sound COUNCIL without which somebody would ask nobody or be lost."""
    council = frozen(council)
    refuse_lost(council)
    return tuple([arc for arc in arcs(council) if lost_ones(less_arc(council, arc)) != ()])


def less_arc(council, arc):
    """What is left of the COUNCIL without the arc; its asker may ask nobody then."""
    asker, goal = arc
    return put_at(council, asker, tuple([number for number in council[asker] if number != goal]))


def in_rings(council):
    """The set of the askers in some RING."""
    council = frozen(council)
    return tuple(sorted(set([number for number, goal in arcs(council) if number in reach_of(council, goal)])))


def shortest_ring(council, asker):
    """Of the RINGS that begin with the asker and have the fewest MEMBERS the least; None if there is none."""
    council = frozen(council)
    refuse_members(council, (asker,))
    refuse_askers(council, (asker,))
    back = nearest_road(council, council[asker], (asker,))
    return None if back is None else (asker,) + back[:-1]


def together(council):
    """The set of the sets of MEMBERS of which each reaches each other one, each MEMBER in one."""
    council = frozen(council)
    reach = [reach_of(council, number) for number in range(len(council))]
    lots = [tuple([goal for goal in reach[number] if number in reach[goal]]) for number in range(len(council))]
    return tuple(sorted(set(lots)))


def with_firm(council, number):
    """The COUNCIL with a further MEMBER, behind all, that holds number."""
    return frozen(council) + (number,)


def with_asker(council, some):
    """The COUNCIL with a further MEMBER, behind all, that asks these."""
    council, some = frozen((council, some))
    refuse_members(council, some)
    if some == ():
        raise Unfit()
    return council + (some,)


def with_arc(council, asker, goal):
    """The COUNCIL in which asker asks goal, too."""
    council = frozen(council)
    refuse_members(council, (asker, goal))
    refuse_askers(council, (asker,))
    if goal in council[asker] or goal == asker:
        raise Unfit()
    return put_at(council, asker, tuple(sorted(council[asker] + (goal,))))


def without_arc(council, asker, goal):
    """The COUNCIL in which asker does not ask goal."""
    council = frozen(council)
    refuse_members(council, (asker, goal))
    refuse_askers(council, (asker,))
    if goal not in council[asker] or len(council[asker]) == 1:
        raise Unfit()
    return less_arc(council, (asker, goal))


def made_firm(council, member, number):
    """The COUNCIL in which this MEMBER holds number."""
    council = frozen(council)
    refuse_members(council, (member,))
    return put_at(council, member, number)


def made_asker(council, member, some):
    """The COUNCIL in which this MEMBER asks just these."""
    council, some = frozen((council, some))
    refuse_members(council, (member,) + some)
    if some == () or member in some:
        raise Unfit()
    return put_at(council, member, some)


def without_member(council, member):
    """The COUNCIL without this MEMBER, the numbers of those behind it one less."""
    council = frozen(council)
    refuse_members(council, (member,))
    if len(council) == 1 or any([member in asks(council, number) for number in range(len(council))]):
        raise Unfit()
    return drawn(council, [number for number in range(len(council)) if number != member])


def drawn(council, order):
    """The COUNCIL whose MEMBER with number k is that with the number order[k] here."""
    places = {number: place for place, number in enumerate(order)}
    return tuple([council[number] if is_firm(council, number)
                  else tuple(sorted([places[goal] for goal in council[number]])) for number in order])


def renumbered(council, order):
    """The COUNCIL whose MEMBER with number k is that with the number order[k] here."""
    council, order = frozen((council, order))
    refuse_members(council, order)
    if sorted(order) != list(range(len(council))):
        raise Unfit()
    return drawn(council, order)


def put_beside(one, other):
    """The MEMBERS of one, then those of other, their numbers more by how many one has."""
    one, other = frozen((one, other))
    many = len(one)
    return one + tuple([part if is_number(part) else tuple([number + many for number in part]) for part in other])


def part_of(council, member):
    """The COUNCIL of just those that this MEMBER reaches, in their order."""
    council = frozen(council)
    refuse_members(council, (member,))
    return drawn(council, reach_of(council, member))
