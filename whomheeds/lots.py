"""HEEDS that are told: whom an asker heeds at least as much as another one (section 13)."""

from whomheeds.basics import are_numbers, are_tuples, ascend, askers_in, asks, best_front, ends_reached, frozen
from whomheeds.basics import is_less, is_set_of_numbers, lost_ones, lowest, on_one_bottom, refuse, subsets
from whomheeds.between import weights_on_the_way
from whomheeds.errors import Unfit
from whomheeds.voices import are_weights, even_weights, loud_enough, sum_parts, value_of, voice_of, weights_on


def is_heeds(council, thing):
    """Whether thing is HEEDS of the COUNCIL."""
    council = frozen(council)
    refuse(council)
    if not are_tuples(thing, 3) or not all([are_numbers(triple) for triple in thing]) or not ascend(thing):
        return False
    chosen = askers_in(council)
    return all([asker in chosen and one != other and one in council[asker] and other in council[asker]
                for asker, one, other in thing])


def refuse_in_heeds(council, heeds, askers=(), members=()):
    """Raises what is due for the numbers in heeds, for these askers and MEMBERS, or as the COUNCIL is not sound."""
    named = [number for triple in heeds for number in triple]
    wanted = [asker for asker, _, _ in heeds] + list(askers)
    refuse(council, named + list(askers) + list(members), wanted)


def drawn_in(heeds, asker, other):
    """A dict of those that stand in each LOT of the asker in which other stands."""
    found = {other: True}
    ahead = [other]
    while ahead:
        here = ahead.pop()
        for who, one, less in heeds:
            if who == asker and less == here and one not in found:
                found[one] = True
                ahead.append(one)
    return found


def all_heeds(council, heeds):
    """The set of all triples that all WEIGHTS keep that keep heeds."""
    council, heeds = frozen((council, heeds))
    refuse_in_heeds(council, heeds)
    return tuple([(asker, one, other) for asker in askers_in(council) for one in council[asker]
                  for other in council[asker] if one != other and one in drawn_in(heeds, asker, other)])


def needless_heeds(council, heeds):
    """The set of those of heeds each of which all WEIGHTS keep that keep the others."""
    council, heeds = frozen((council, heeds))
    refuse_in_heeds(council, heeds)
    return tuple([triple for triple in heeds if is_drawn([told for told in heeds if told != triple], triple)])


def is_drawn(heeds, triple):
    """Whether all WEIGHTS that keep heeds keep the triple."""
    asker, one, other = triple
    return one in drawn_in(heeds, asker, other)


def keeps_heeds(council, heeds, weights):
    """Whether the WEIGHTS keep heeds."""
    council, heeds, weights = frozen((council, heeds, weights))
    refuse_in_heeds(council, heeds)
    return do_keep(council, heeds, weights)


def do_keep(council, heeds, weights):
    """As keeps_heeds, nothing refused."""
    rows = [dict(zip(asks(council, member), row)) for member, row in enumerate(weights)]
    return all([rows[asker][one] >= rows[asker][other] for asker, one, other in heeds])


def lots_of(council, heeds, asker):
    """The ascending list of the LOTS of the asker."""
    council, heeds = frozen((council, heeds))
    refuse_in_heeds(council, heeds, (asker,))
    return lots_at(council, heeds, asker)


def lots_at(council, heeds, asker):
    """As lots_of, nothing refused; of a firm one () alone."""
    own = [(one, other) for who, one, other in heeds if who == asker]
    good = [lot for lot in subsets(asks(council, asker)) if all([one in lot or other not in lot for one, other in own])]
    return sorted([lot for lot in good if lot != ()]) or [()]


def all_lots(council, heeds):
    """The ascending list of all sound LOTS."""
    council, heeds = frozen((council, heeds))
    refuse_in_heeds(council, heeds)
    return sound_lots(council, heeds)


def sound_lots(council, heeds):
    """As all_lots, nothing refused."""
    found = [()]
    for member in range(len(council)):
        options = lots_at(council, heeds, member)
        found = [lots + (lot,) for lots in found for lot in options]
    return [lots for lots in found if lost_ones(asking(council, lots)) == ()]


def asking(council, lots):
    """The COUNCIL in which each asker asks just those in its LOT."""
    return tuple([lot if isinstance(part, tuple) else part for part, lot in zip(council, lots)])


def parts_by_lots(council, lots, total):
    """The value of the SUM by these LOTS as top and bottom, maybe not in least terms."""
    plain = asking(council, lots)
    return sum_parts(plain, even_weights(plain), total)


def value_by_lots(council, lots, total):
    """The value of the SUM by these LOTS, if they are sound."""
    council, lots, total = frozen((council, lots, total))
    refuse(council, [member for lot in lots for member in lot])
    if lost_ones(asking(council, lots)) != ():
        raise Unfit()
    return value_there(council, lots, total)


def value_there(council, lots, total):
    """The value of the SUM by these sound LOTS."""
    top, bottom = parts_by_lots(council, lots, total)
    return lowest(top, bottom)


def end_lots(council, heeds, total):
    """A pair of sound LOTS: some by which the SUM has the least value, some by which it has the greatest."""
    refuse_in_heeds(council, heeds)
    pairs = [(lots, parts_by_lots(council, lots, total)) for lots in sound_lots(council, heeds)]
    return (best_front(pairs, -1), best_front(pairs, 1))


def heeded(council, heeds, total):
    """The least and the greatest value by sound LOTS, and for each whether some WEIGHTS that keep heeds have it."""
    council, heeds, total = frozen((council, heeds, total))
    low, high = end_lots(council, heeds, total)
    return told_ends(value_there(council, low, total), value_there(council, high, total),
                     value_of(council, even_weights(council), total))


def told_ends(low, high, even):
    """What heeded tells; even is what comes of heeding all alike."""
    return (low, high, even == low, even == high)


def holds_heeded(council, heeds, total, number):
    """Whether by all WEIGHTS that keep heeds the value is at least number."""
    low = heeded(council, heeds, total)[0]
    return not is_less(low, (number, 1))


def strictly_heeded(council, heeds, total, number):
    """Whether by all WEIGHTS that keep heeds the value is above number."""
    low, _, is_had, _ = heeded(council, heeds, total)
    return not is_less(low, (number, 1)) and not (is_had and low == (number, 1))


def most_by_ends(council, total):
    """At most so much is the value of the SUM by the ENDS of any FOLLOWING."""
    return sum([max([number * council[end] for end in ends_reached(council, member)])
                for member, number in enumerate(total)])


def heeding_below(council, lots, total, fraction):
    """WEIGHTS that keep heeds by which the SUM is below the fraction, as by these sound LOTS."""
    top, bottom = fraction
    return weights_on(council, lots, loud_enough(council, most_by_ends(council, total) * bottom - top))


def heeding_against(council, heeds, total, number):
    """WEIGHTS that keep heeds by which the value is below number; None if there are none."""
    council, heeds, total = frozen((council, heeds, total))
    low, _ = end_lots(council, heeds, total)
    top, bottom = parts_by_lots(council, low, total)
    if top >= number * bottom:
        return None
    return heeding_below(council, low, total, (number, 1))


def is_heeding_against(council, heeds, total, number, thing):
    """Whether thing is such WEIGHTS."""
    council, heeds, total = frozen((council, heeds, total))
    refuse_in_heeds(council, heeds)
    if not are_weights(council, thing) or not do_keep(council, heeds, thing):
        return False
    top, bottom = sum_parts(council, thing, total)
    return top < number * bottom


def heeding_weights(council, heeds, total, fraction):
    """WEIGHTS that keep heeds by which the value is fraction; None if there are none."""
    council, heeds, total, fraction = frozen((council, heeds, total, fraction))
    low, high = end_lots(council, heeds, total)
    even = even_weights(council)
    if value_of(council, even, total) == fraction:
        return even
    # If the fraction is not between both ends, no step on the way from one to the other comes over it.
    below = heeding_below(council, low, total, fraction)
    turned = tuple([-number for number in total])
    above = heeding_below(council, high, turned, (-fraction[0], fraction[1]))
    return weights_on_the_way(council, below, above, total, fraction)


def is_heeding(council, heeds, total, fraction, thing):
    """Whether thing is such WEIGHTS."""
    council, heeds, total, fraction = frozen((council, heeds, total, fraction))
    refuse_in_heeds(council, heeds)
    if not are_weights(council, thing) or not do_keep(council, heeds, thing):
        return False
    return value_of(council, thing, total) == fraction


def high_lots(council, heeds):
    """Sound LOTS by which each asker has the greatest FRACTION."""
    return best_lots(council, heeds, 1)[0]


def low_lots(council, heeds):
    """Sound LOTS by which each asker has the least FRACTION."""
    return best_lots(council, heeds, -1)[0]


def best_lots(council, heeds, sign):
    """A pair: sound LOTS by which all have the greatest, for sign -1 the least FRACTION, and what they have.

    Each asker takes the LOT with the best mean as long as that is better than what it has. By that nobody sinks,
    and the LOTS stay sound: of askers shut in by new ones the best one would have taken nothing better.
    """
    council, heeds = frozen((council, heeds))
    refuse_in_heeds(council, heeds)
    options = [lots_at(council, heeds, member) for member in range(len(council))]
    lots = tuple([asks(council, member) for member in range(len(council))])
    better = turned_up(lots, options, voice_by_lots(council, lots), sign)
    while better != lots:
        lots = better
        better = turned_up(lots, options, voice_by_lots(council, lots), sign)
    return (lots, voice_by_lots(council, lots))


def voice_by_lots(council, lots):
    """For each MEMBER the FRACTION that it has by these sound LOTS."""
    plain = asking(council, lots)
    return voice_of(plain, even_weights(plain))


def turned_up(lots, options, voice, sign):
    """The LOTS in which each asker has that with the best mean, its own if none is better."""
    tops, _ = on_one_bottom(voice)
    rows = []
    for own, others in zip(lots, options):
        pairs = [(lot, (sum([tops[goal] for goal in lot]), len(lot))) for lot in [own] + others if lot != ()]
        rows.append(best_front(pairs, sign) if pairs else ())
    return tuple(rows)


def is_high_lots(council, heeds, thing):
    """Whether thing is sound LOTS by which each asker has the greatest FRACTION."""
    return are_best(council, heeds, thing, best_lots(council, heeds, 1)[1])


def is_low_lots(council, heeds, thing):
    """Whether thing is sound LOTS by which each asker has the least FRACTION."""
    return are_best(council, heeds, thing, best_lots(council, heeds, -1)[1])


def are_best(council, heeds, thing, voice):
    """Whether thing is sound LOTS by which all have this."""
    council, heeds = frozen((council, heeds))
    if not isinstance(thing, tuple) or len(thing) != len(council) or not all([is_set_of_numbers(lot) for lot in thing]):
        return False
    if not all([lot in lots_at(council, heeds, member) for member, lot in enumerate(thing)]):
        return False
    return lost_ones(asking(council, thing)) == () and voice_by_lots(council, thing) == voice


def heeded_range(council, heeds, member):
    """What heeded tells of the FRACTION of this MEMBER alone."""
    council, heeds = frozen((council, heeds))
    refuse_in_heeds(council, heeds, (), (member,))
    low, high = best_lots(council, heeds, -1)[1][member], best_lots(council, heeds, 1)[1][member]
    return told_ends(low, high, voice_of(council, even_weights(council))[member])
