"""One judge of CLAIMS: whether they stand FOR ALL WEIGHTS, and PAPERS by which they do not (section 18)."""

from whomheeds.basics import are_numbers, arcs, frozen, is_firm, is_fraction, is_less, is_number, is_set_of_numbers
from whomheeds.basics import lost_ones, put_at, reach_of, refuse_lost, subsets
from whomheeds.bounds import corner_below, is_below_within, is_bounds, least_within
from whomheeds.buyers import is_low_road, low_road
from whomheeds.councils import less_arc
from whomheeds.errors import Unfit
from whomheeds.lots import heeded, heeding_against, is_heeding_against, is_heeds
from whomheeds.orders import is_weights_of, keeps_numbers, weights_of_voice
from whomheeds.pulls import are_unlike_at, heeding_more, less, weights_unlike
from whomheeds.rounds import is_begun, is_talk_against, talk_against, total_after
from whomheeds.sums import is_weights_against, is_wish, least_value, least_wish, sums_by_all, weights_against
from whomheeds.sums import weights_not_above, wish_weights_against
from whomheeds.unknown import against_in_order, is_against_in_order, is_told_order
from whomheeds.voices import are_weights, lone, value_of, wish_at


def is_claim(council, thing):
    """Whether thing is a CLAIM of the COUNCIL."""
    council = frozen(council)
    refuse_lost(council)
    return fits_claim(council, thing)


def fits_claim(council, thing):
    """As is_claim, nothing refused."""
    if not isinstance(thing, tuple):
        return False
    match thing:
        case ("least" | "above", total, number):
            return is_sum(council, total) and is_number(number)
        case ("wish", wish, number):
            return is_wish(council, wish) and is_number(number)
        case ("like", one, other):
            return are_members(council, (one, other))
        case ("voice", voice):
            return is_voice_told(council, voice)
        case ("bounds", bounds, total, number):
            return is_bounds(council, bounds) and is_sum(council, total) and is_number(number)
        case ("heeds", heeds, total, number):
            return is_heeds(council, heeds) and is_sum(council, total) and is_number(number)
        case ("order", order, total):
            return is_told_order(council, order) and is_sum(council, total)
        case ("pull", asker, other, member):
            return are_members(council, (asker, other, member)) and is_asked(council, asker, other)
        case ("bought", some, number, bought):
            return is_number(number) and is_set_of_numbers(some) and are_members(council, some) and (
                is_set_of_askers(council, bought))
        case ("talk", begun, rounds, total, number):
            return is_begun(council, begun) and is_number(rounds) and rounds >= 0 and (
                is_sum(council, total) and is_number(number))
        case _:
            return False


def is_sum(council, thing):
    """Whether thing is a SUM of the COUNCIL."""
    return are_numbers(thing) and len(thing) == len(council)


def are_members(council, numbers):
    return all([is_number(number) and 0 <= number < len(council) for number in numbers])


def is_asked(council, asker, other):
    """Whether this MEMBER is an asker that asks that one."""
    return not is_firm(council, asker) and other in council[asker]


def is_set_of_askers(council, thing):
    if not is_set_of_numbers(thing) or not are_members(council, thing):
        return False
    return not any([is_firm(council, asker) for asker in thing])


def is_voice_told(council, thing):
    """Whether thing is a tuple of FRACTIONS, one for each MEMBER, by which each firm one holds its number."""
    if not isinstance(thing, tuple) or len(thing) != len(council):
        return False
    return all([is_fraction(part) for part in thing]) and keeps_numbers(council, thing)


def judged(council, claim):
    """The pair of the COUNCIL and the CLAIM, of tuples; refuses what is due."""
    council, claim = frozen((council, claim))
    refuse_lost(council)
    if not fits_claim(council, claim):
        raise Unfit()
    return (council, claim)


def stands(council, claim):
    """Whether it is so."""
    return paper_against(council, claim) is None


def paper_against(council, claim):
    """A PAPER against the CLAIM; None if it stands."""
    council, claim = judged(council, claim)
    return paper_of(council, claim)


def paper_of(council, claim):
    """As paper_against, nothing refused."""
    match claim:
        case ("least", total, number):
            return weights_against(council, total, number)
        case ("above", total, number):
            return weights_not_above(council, total, number)
        case ("wish", wish, number):
            return wish_weights_against(council, wish, number)
        case ("like", one, other):
            return weights_unlike(council, one, other)
        case ("voice", voice):
            return weights_of_voice(council, voice)
        case ("bounds", bounds, total, number):
            return corner_below(council, bounds, total, number)
        case ("heeds", heeds, total, number):
            return heeding_against(council, heeds, total, number)
        case ("order", order, total):
            return against_in_order(council, order, total)
        case ("pull", asker, other, member):
            return pair_of_heed(council, asker, other, member)
        case ("bought", some, number, bought):
            return low_road(council, some, number, bought)
        case ("talk", begun, rounds, total, number):
            return talk_against(council, begun, rounds, total, number)


def pair_of_heed(council, asker, other, member):
    """A pair of WEIGHTS, the later ones with more weight of asker for other, by which member holds less; or None.

    All that reach the asker sink with it, if the other one holds less than it does.
    """
    if asker not in reach_of(council, member):
        return None
    weights = weights_against(council, less(council, other, asker), 0)
    return None if weights is None else (weights, heeding_more(council, weights, asker, other))


def is_paper_against(council, claim, thing):
    """Whether thing is a PAPER against the CLAIM."""
    council, claim = judged(council, claim)
    match claim:
        case ("least", total, number):
            return is_weights_against(council, total, number, thing)
        case ("above", total, number):
            return are_weights(council, thing) and not is_less((number, 1), value_of(council, thing, total))
        case ("wish", wish, number):
            return are_weights(council, thing) and is_less(wish_at(council, thing, wish), (number, 1))
        case ("like", one, other):
            return are_weights(council, thing) and value_of(council, thing, less(council, one, other)) != (0, 1)
        case ("voice", voice):
            return is_weights_of(council, voice, thing)
        case ("bounds", bounds, total, number):
            return is_below_within(council, bounds, total, number, thing)
        case ("heeds", heeds, total, number):
            return is_heeding_against(council, heeds, total, number, thing)
        case ("order", order, total):
            return is_against_in_order(council, order, total, thing)
        case ("pull", asker, other, member):
            return is_pair_of_heed(council, asker, other, member, thing)
        case ("bought", some, number, bought):
            return is_low_road(council, some, number, bought, thing)
        case ("talk", begun, rounds, total, number):
            return is_talk_against(council, begun, rounds, total, number, thing)


def is_pair_of_heed(council, asker, other, member, thing):
    """Whether thing is a pair as pair_of_heed tells."""
    if not are_unlike_at(council, asker, thing):
        return False
    place = council[asker].index(other)
    one, more = thing
    if one[asker][place] >= more[asker][place] or put_at(one[asker], place, 0) != put_at(more[asker], place, 0):
        return False
    total = lone(council, member)
    return is_less(value_of(council, more, total), value_of(council, one, total))


def first_fallen(council, claims):
    """A pair (place, paper) of the first CLAIM that does not stand; None if all stand."""
    council, claims = frozen((council, claims))
    refuse_lost(council)
    if not all([fits_claim(council, claim) for claim in claims]):
        raise Unfit()
    for place, claim in enumerate(claims):
        paper = paper_of(council, claim)
        if paper is not None:
            return (place, paper)
    return None


def broken_by(council, other, claims):
    """The set of the places of the CLAIMS of both COUNCILS that stand in council and not in other."""
    council, other, claims = frozen((council, other, claims))
    refuse_lost(council)
    refuse_lost(other)
    return tuple([place for place, claim in enumerate(claims) if is_broken(council, other, claim)])


def is_broken(council, other, claim):
    """Whether it is a CLAIM of both COUNCILS that stands in the one and not in the other."""
    if not fits_claim(council, claim) or not fits_claim(other, claim):
        return False
    return paper_of(council, claim) is None and paper_of(other, claim) is not None


def best_claim(council, claim):
    """The CLAIM like this one, with the greatest number by which it stands."""
    council, claim = judged(council, claim)
    number = best_number(council, claim)
    if number is None:
        raise Unfit()
    return claim[:-1] + (number,)


def best_number(council, claim):
    """The greatest number by which the CLAIM stands; None for a kind that has none."""
    match claim:
        case ("least", total, _):
            return least_value(council, total)
        case ("above", total, _):
            values = [value for value, _ in sums_by_all(council, total)]
            # What is never the least value itself is always above it.
            return min(values) if min(values) < max(values) else min(values) - 1
        case ("wish", wish, _):
            return least_wish(council, wish)
        case ("bounds", bounds, total, _):
            top, bottom = least_within(council, bounds, total)
            return top // bottom
        case ("heeds", heeds, total, _):
            top, bottom = heeded(council, heeds, total)[0]
            return top // bottom
        case ("talk", begun, rounds, total, _):
            return total_after(council, begun, rounds, total)[0]
        case _:
            return None


def fewest_arcs_out(council, claim):
    """The least of the sets of as few arcs as can be, without which it is sound and the CLAIM stands; or None."""
    council, claim = judged(council, claim)
    if claim[0] not in ("least", "wish", "like"):
        raise Unfit()
    for some in subsets(arcs(council)):
        narrow = council
        for arc in some:
            narrow = less_arc(narrow, arc)
        if lost_ones(narrow) == () and paper_of(narrow, claim) is None:
            return some
    return None
