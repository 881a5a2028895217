"""Whom to buy so that some surely hold enough; at how many firm ones askers end (section 16)."""

from whomheeds.basics import ascend, askers_in, asks, ends_reached, firm_in, frozen, is_firm, is_set_of_numbers
from whomheeds.basics import put_at, refuse, subsets
from whomheeds.councils import is_road, nearest_road
from whomheeds.errors import Unfit
from whomheeds.flows import places_from, road_taken, side_by_side
from whomheeds.ranges import best_row


def are_sure(council, some, number, bought):
    """Whether FOR ALL WEIGHTS, whatever the bought ones hold then, each of some holds at least number."""
    return low_road(council, some, number, bought) is None


def low_road(council, some, number, bought):
    """A low ROAD of some on which none of bought stands; None if there is none."""
    council, some, bought = frozen((council, some, bought))
    refuse_bought(council, some, bought)
    return road_past(council, some, number, bought)


def refuse_bought(council, some, bought):
    """Raises what is due for the numbers in some and in bought, or as the COUNCIL is not sound."""
    refuse(council, some + bought, bought)


def road_past(council, some, number, bought):
    """As low_road, nothing refused."""
    for asker in bought:
        # Nothing goes on from a bought one: so it stands on no ROAD to a firm one.
        council = put_at(council, asker, ())
    return nearest_road(council, some, low_ones(council, number))


def low_ones(council, number):
    """The firm ones that hold less than number."""
    return tuple([firm for firm in firm_in(council) if council[firm] < number])


def is_low_road(council, some, number, bought, thing):
    """Whether thing is such a ROAD."""
    council, some, bought = frozen((council, some, bought))
    refuse_bought(council, some, bought)
    return is_low(council, some, number, thing) and not any([asker in thing for asker in bought])


def is_low(council, some, number, thing):
    """Whether thing is a low ROAD of some."""
    return is_road(council, thing) and thing[0] in some and thing[-1] in low_ones(council, number)


def cannot_be_sure(council, some, number):
    """Whether one of some is firm and holds less than number."""
    low = low_ones(council, number)
    return any([member in low for member in some])


def sets_enough(council, some, number):
    """The list of all sets of askers with which some are sure, those with fewer ahead, the lesser ones of as many."""
    return [bought for bought in subsets(askers_in(council)) if road_past(council, some, number, bought) is None]


def fewest_bought(council, some, number):
    """How many askers must be bought at the least; None if one of some is firm and holds less than number."""
    found = roads_apart(council, some, number)
    return None if found is None else len(found)


def least_bought(council, some, number):
    """The least set of so many with which some are sure; None likewise."""
    council, some = frozen((council, some))
    refuse(council, some)
    return min(sets_enough(council, some, number), key=len, default=None)


def roads_apart(council, some, number):
    """A set of so many low ROADS, no two of which have an asker in common; None likewise."""
    council, some = frozen((council, some))
    refuse(council, some)
    if cannot_be_sure(council, some, number):
        return None
    low = low_ones(council, number)
    asked = [asks(council, member) for member in range(len(council))]
    # The flow ends at the askers that ask low ones: firm ones may be taken by several ROADS.
    last = {asker: [goal for goal in council[asker] if goal in low] for asker in askers_in(council)}
    left, led = side_by_side(asked, [asker for asker in last if last[asker]], some)
    roads = [road_taken(asked, left, start) for start in led]
    return tuple([road + (last[road[-1]][0],) for road in roads])


def is_roads_apart(council, some, number, thing):
    """Whether thing is such a set of ROADS."""
    council, some = frozen((council, some))
    found = roads_apart(council, some, number)
    if found is None or not isinstance(thing, tuple) or len(thing) != len(found):
        return False
    if not all([is_low(council, some, number, road) for road in thing]) or not ascend(thing):
        return False
    stood = [member for road in thing for member in road[:-1]]
    return len(set(stood)) == len(stood)


def cheapest_bought(council, some, number, prices):
    """The least that askers who are enough cost together; None if there are none."""
    council, some, prices = frozen((council, some, prices))
    refuse(council, some)
    if len(prices) != len(council):
        raise Unfit()
    costs = [[prices[asker] for asker in bought] for bought in sets_enough(council, some, number)]
    return min([sum(row) for row in costs if None not in row], default=None)


def needed_bought(council, some, number):
    """The set of the askers without whom all others are not enough; None as fewest_bought."""
    council, some = frozen((council, some))
    refuse(council, some)
    if cannot_be_sure(council, some, number):
        return None
    chosen = askers_in(council)
    return tuple([asker for asker in chosen if road_past(
        council, some, number, [other for other in chosen if other != asker]) is not None])


def all_least_bought(council, some, number):
    """The ascending list of all sets of askers with which some are sure, and with no part of which they are."""
    council, some = frozen((council, some))
    refuse(council, some)
    enough = sets_enough(council, some, number)
    known = {bought: True for bought in enough}
    return sorted([bought for bought in enough if not any([rest in known for rest in with_one_less(bought)])])


def with_one_less(bought):
    """The tuples that come of this one if one of its parts is left out."""
    return [bought[:place] + bought[place + 1:] for place in range(len(bought))]


def paired(council):
    """A triple: whom askers ask of firm ones, the ways left of a flow from askers to these, the askers that are led."""
    asked = [tuple([goal for goal in asks(council, member) if is_firm(council, goal)])
             for member in range(len(council))]
    left, led = side_by_side(asked, firm_in(council), askers_in(council))
    return (asked, left, led)


def most_ends(council):
    """At how many firm ones askers end in one FOLLOWING, at the most."""
    council = frozen(council)
    refuse(council)
    return len(paired(council)[2])


def following_to_most(council):
    """A FOLLOWING in which they do."""
    council = frozen(council)
    refuse(council)
    asked, left, led = paired(council)
    for asker in led:
        council = put_at(council, asker, road_taken(asked, left, asker)[1:])
    # The others come to a firm one, or to somebody who is led to one.
    return best_row(council, "least")


def bar(council):
    """A pair (firm ones, askers), so many as most_ends, one of which each arc from asker to firm one has."""
    council = frozen(council)
    refuse(council)
    _, left, led = paired(council)
    # Those left over come to all that they ask, and to all that would have to give way to them (Koenig); from the
    # first places of the others nothing leads on.
    came = {place: True for asker in askers_in(council) for place in places_from(left, (asker, 0))}
    return (tuple([firm for firm in firm_in(council) if (firm, 0) in came]),
            tuple([asker for asker in led if (asker, 1) not in came]))


def is_bar(council, thing):
    """Whether thing is such a pair."""
    council = frozen(council)
    refuse(council)
    if not isinstance(thing, tuple) or len(thing) != 2 or not all([is_set_of_numbers(part) for part in thing]):
        return False
    firm, chosen = thing
    # Whoever is of another kind has no arc here: with somebody like that so few would not be enough.
    if len(firm) + len(chosen) != most_ends(council):
        return False
    return all([asker in chosen or goal in firm for asker, goal in arcs_to_firm(council)])


def arcs_to_firm(council):
    """The arcs from an asker to a firm one."""
    return [(asker, goal) for asker in askers_in(council) for goal in council[asker] if is_firm(council, goal)]


def fewest_ends(council):
    """At how few firm ones askers end in one FOLLOWING."""
    return len(least_ends(council))


def least_ends(council):
    """The least set of so few firm ones within which all askers can end."""
    council = frozen(council)
    refuse(council)
    reach = [ends_reached(council, asker) for asker in askers_in(council)]
    return [some for some in subsets(firm_in(council)) if are_met(reach, some)][0]


def are_met(lots, some):
    """Whether one of some is in each lot."""
    return all([any([member in some for member in lot]) for lot in lots])
