"""VOICES that are told whole, and the ORDERS in which MEMBERS can stand (section 10)."""

from whomheeds.basics import askers_in, asks, firm_in, frozen, is_firm, is_fraction, is_set_of_numbers, lowest
from whomheeds.basics import on_one_bottom, put_at, refuse
from whomheeds.errors import Unfit
from whomheeds.sums import beside
from whomheeds.voices import are_weights, mean_heard, plain_row


def tops_of(council, voice):
    """A pair: voice as whole numbers, and the bottom of them all; refuses what is due."""
    refuse(council)
    if not keeps_numbers(council, voice):
        raise Unfit()
    return on_one_bottom(voice)


def keeps_numbers(council, voice):
    """Whether by voice each firm one holds its number."""
    return all([voice[firm] == (council[firm], 1) for firm in firm_in(council)])


def misfits(council, voice):
    """The set of the misfits of voice."""
    council, voice = frozen((council, voice))
    tops, _ = tops_of(council, voice)
    return misfits_of(council, tops)


def misfits_of(council, tops):
    """The set of the askers that stand neither between two of those that they ask nor with all of them."""
    return tuple([asker for asker in askers_in(council)
                  if not fits(tops[asker], [tops[goal] for goal in council[asker]])])


def fits(own, others):
    """Whether own is strictly between two of the others, or all of them are this."""
    low, high = min(others), max(others)
    return low < own < high or low == own == high


def can_be_voice(council, voice):
    """Whether voice is the VOICE by some WEIGHTS."""
    return misfits(council, voice) == ()


def weights_of_voice(council, voice):
    """WEIGHTS by which voice is the VOICE; None if there are none."""
    council, voice = frozen((council, voice))
    tops, _ = tops_of(council, voice)
    if misfits_of(council, tops) != ():
        return None
    return tuple([balanced(tops[member], [tops[goal] for goal in asks(council, member)])
                  for member in range(len(council))])


def balanced(own, others):
    """Weights by which own is the mean of the others: those above together pull as much as those below."""
    above = sum([other - own for other in others if other > own])
    below = sum([own - other for other in others if other < own])
    return plain_row(tuple([below if other > own else above if other < own else 1 for other in others]))


def is_weights_of(council, voice, thing):
    """Whether thing is WEIGHTS, however great, by which voice is the VOICE."""
    council, voice = frozen((council, voice))
    tops_of(council, voice)
    if not are_weights(council, thing):
        return False
    return all([mean_heard(council, thing, voice, asker) == voice[asker] for asker in askers_in(council)])


def may_hold(council, voice, asker):
    """The pair (low, high) between which, or just which, the asker may hold; None if there is nothing."""
    council, voice = frozen((council, voice))
    refuse(council, (asker,), (asker,))
    tops, bottom = tops_of(council, voice)
    found = room_for(council, tops, asker)
    return None if found is None else (lowest(found[0], bottom), lowest(found[1], bottom))


def room_for(council, tops, asker):
    """As may_hold, in whole numbers.

    Its own place, and that of each who asks it, leaves room between two numbers, or for one; the misfits that do
    not ask it cannot be mended by it.
    """
    heard = [tops[goal] for goal in council[asker]]
    rooms = [(min(heard), max(heard))] + [room_by(council, tops, other, asker) for other in askers_in(council)
                                          if asker in council[other]]
    low = max([least for least, _ in rooms if least is not None])
    high = min([greatest for _, greatest in rooms if greatest is not None])
    # The middle is tried, the only number there is room for if both are one; all times 2, so that it is whole.
    tried = put_at(tuple([2 * top for top in tops]), asker, low + high)
    return (low, high) if misfits_of(council, tried) == () else None


def room_by(council, tops, other, asker):
    """Between which two numbers asker must be, or at which one, that other, who asks it, is no misfit."""
    own = tops[other]
    heard = [tops[goal] for goal in council[other] if goal != asker]
    low = None if any([top > own for top in heard]) else own
    high = None if any([top < own for top in heard]) else own
    return (low, high)


def mended_by(council, voice):
    """The set of the askers for which may_hold tells something."""
    council, voice = frozen((council, voice))
    tops, _ = tops_of(council, voice)
    return tuple([asker for asker in askers_in(council) if room_for(council, tops, asker) is not None])


def is_order(council, thing):
    """Whether thing is an ORDER of the COUNCIL."""
    council = frozen(council)
    refuse(council)
    if not isinstance(thing, tuple) or not all([is_set_of_numbers(part) and len(part) > 0 for part in thing]):
        return False
    if sorted([member for part in thing for member in part]) != list(range(len(council))):
        return False
    firm = [tuple([member for member in part if is_firm(council, member)]) for part in thing]
    return tuple([some for some in firm if some != ()]) == firm_order(council)


def places_in(order):
    """A dict with the place of each MEMBER's set in the ORDER."""
    return {member: place for place, some in enumerate(order) for member in some}


def order_of(council, voice):
    """The ORDER of voice, let or not."""
    council, voice = frozen((council, voice))
    tops, _ = tops_of(council, voice)
    return order_by(tops)


def order_by(row):
    """The sets of places that have the same number in the row, those with less ahead."""
    return tuple([tuple([place for place, part in enumerate(row) if part == number]) for number in sorted(set(row))])


def is_let(council, order):
    """Whether the ORDER is let."""
    council, order = frozen((council, order))
    refuse(council, [member for some in order for member in some])
    return misfits_of(council, places_in(order)) == ()


def voice_with(council, order):
    """A tuple like voice, without misfits, with this ORDER; None if it is not let."""
    council, order = frozen((council, order))
    if not is_let(council, order):
        return None
    held = [[council[member] for member in some if is_firm(council, member)] for some in order]
    told = [place for place, numbers in enumerate(held) if numbers]
    # In a let ORDER firm ones are in the first set and in the last one.
    found = {told[0]: (held[told[0]][0], 1)}
    for low, high in zip(told, told[1:]):
        for place in range(low + 1, high + 1):
            found[place] = spread(held[low][0], held[high][0], place - low, high - low)
    return tuple([found[place] for _, place in sorted(places_in(order).items())])


def spread(low, high, steps, many):
    """The FRACTION that so many steps of many lead to from low to high."""
    return lowest(low * many + (high - low) * steps, many)


def is_voice_with(council, order, thing):
    """Whether thing is such a tuple."""
    council, order = frozen((council, order))
    refuse(council, [member for some in order for member in some])
    if not isinstance(thing, tuple) or len(thing) != len(council) or not all([is_fraction(part) for part in thing]):
        return False
    tops, _ = on_one_bottom(thing)
    return keeps_numbers(council, thing) and misfits_of(council, tops) == () and order_by(tops) == order


def all_orders(council):
    """The ascending list of all let ORDERS."""
    council = frozen(council)
    refuse(council)
    found = [firm_order(council)]
    for asker in askers_in(council):
        # An asker is looked at as soon as it and all askers that it asks have a place.
        ready = [other for other in askers_in(council)
                 if max([at for at in council[other] + (other,) if not is_firm(council, at)]) == asker]
        longer = [order for shorter in found for order in with_member(shorter, asker)]
        found = [order for order in longer if is_let_for(council, order, ready)]
    return sorted(found)


def firm_order(council):
    """The sets of the firm ones that hold the same, those that hold less ahead."""
    numbers = sorted(set([council[firm] for firm in firm_in(council)]))
    return tuple([tuple([firm for firm in firm_in(council) if council[firm] == number]) for number in numbers])


def with_member(order, member):
    """The tuples of sets that come of order if this member stands in one of its sets, or between two.

    At the ends, behind or ahead of all firm ones, nobody stands in a let ORDER.
    """
    inside = [put_at(order, place, tuple(sorted(some + (member,)))) for place, some in enumerate(order)]
    return inside + [order[:place] + ((member,),) + order[place:] for place in range(1, len(order))]


def is_let_for(council, order, some):
    """Whether none of these askers, all of whom they ask having a place, is out of place in order."""
    places = places_in(order)
    return all([fits(places[asker], [places[goal] for goal in council[asker]]) for asker in some])


def how_they_stand(council, one, other):
    """The set of the words "above", "alike", "below" that tell how one may stand to other."""
    word = beside(council, one, other)
    return ("above", "alike", "below") if word == "either" else (word,)
