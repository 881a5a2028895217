"""What is sure where the numbers of the firm ones are not known, but an order, or bounds, of them (section 11)."""

from whomheeds.basics import are_numbers, are_tuples, ascend, ends_reached, firm_in, frozen, refuse, subsets
from whomheeds.follows import all_ends, ends_by, is_plain_following, rows_and_ends


def refuse_in_order(council, order, members=()):
    """Raises what is due for the numbers in the order's pairs and these members, or as the COUNCIL is not sound."""
    named = [number for pair in order for number in pair]
    refuse(council, named + list(members), (), named)


def is_told_order(council, thing):
    """Whether thing is a set of pairs of unlike firm MEMBERS."""
    council = frozen(council)
    refuse(council)
    if not are_tuples(thing, 2) or not all([are_numbers(pair) for pair in thing]) or not ascend(thing):
        return False
    firm = firm_in(council)
    return all([one in firm and other in firm and one != other for one, other in thing])


def is_in_order(council, order, thing):
    """Whether thing is numbers of the firm ones that keep the order."""
    council, order = frozen((council, order))
    refuse_in_order(council, order)
    return keeps_order(council, order, thing)


def keeps_order(council, order, thing):
    """As is_in_order, nothing refused."""
    if not are_tuples(thing, 2) or not all([are_numbers(pair) for pair in thing]):
        return False
    if tuple([firm for firm, _ in thing]) != firm_in(council):
        return False
    held = {firm: number for firm, number in thing}
    return all([held[one] <= held[other] for one, other in order])


def upward_sets(council, order):
    """The ascending list of all upward sets of firm ones."""
    council, order = frozen((council, order))
    refuse_in_order(council, order)
    return sets_upward(council, order)


def sets_upward(council, order):
    """As upward_sets, nothing refused."""
    return sorted([some for some in subsets(firm_in(council))
                   if all([one not in some or other in some for one, other in order])])


def parts_by_end(council, total, ends):
    """For each firm one what the numbers in total of those that end at it add up to."""
    parts = {firm: 0 for firm in firm_in(council)}
    for number, end in zip(total, ends):
        parts[end] += number
    return tuple(parts.values())


def all_parts(council, total):
    """The rows of these numbers that come of all FOLLOWINGS, each once."""
    return sorted(set([parts_by_end(council, total, ends) for ends in all_ends(council)]))


def is_never_below(council, order, rows):
    """Whether in each row the numbers of each upward set of firm ones add up to 0 or more."""
    places = {firm: place for place, firm in enumerate(firm_in(council))}
    lots = [[places[firm] for firm in some] for some in sets_upward(council, order)]
    return all([sum([row[place] for place in lot]) >= 0 for row in rows for lot in lots])


def holds_in_order(council, order, total):
    """Whether the SUM is at least 0 FOR ALL WEIGHTS and all numbers that keep the order."""
    council, order, total = frozen((council, order, total))
    refuse_in_order(council, order)
    return sum(total) == 0 and is_never_below(council, order, all_parts(council, total))


def holds_from_zero(council, order, total):
    """Whether it is so for all such numbers that are from 0 on."""
    council, order, total = frozen((council, order, total))
    refuse_in_order(council, order)
    return is_never_below(council, order, all_parts(council, total))


def against_in_order(council, order, total):
    """A pair (following, numbers) that keeps the order, by which the SUM is below 0; None if it holds."""
    council, order, total = frozen((council, order, total))
    refuse_in_order(council, order)
    if sum(total) != 0:
        # All may hold one number, as far from 0 as one likes, on either side of it.
        number = 1 if sum(total) < 0 else -1
        return (rows_and_ends(council)[0][0], tuple([(firm, number) for firm in firm_in(council)]))
    return against_upward(council, order, total)


def against_from_zero(council, order, total):
    """Likewise with numbers from 0 on."""
    council, order, total = frozen((council, order, total))
    refuse_in_order(council, order)
    return against_upward(council, order, total)


def against_upward(council, order, total):
    """A pair (following, numbers) by which it is below 0, those in some upward set holding 1, the others 0; or None."""
    lots = sets_upward(council, order)
    for row, ends in rows_and_ends(council):
        for some in lots:
            if sum([number for number, end in zip(total, ends) if end in some]) < 0:
                return (row, tuple([(firm, 1 if firm in some else 0) for firm in firm_in(council)]))
    return None


def is_against_in_order(council, order, total, thing):
    """Whether thing is such a pair."""
    council, order, total = frozen((council, order, total))
    refuse_in_order(council, order)
    return is_pair_against(council, order, total, thing)


def is_pair_against(council, order, total, thing):
    """As is_against_in_order, nothing refused."""
    if not isinstance(thing, tuple) or len(thing) != 2:
        return False
    following, numbers = thing
    if not is_plain_following(council, following) or not keeps_order(council, order, numbers):
        return False
    held = {firm: number for firm, number in numbers}
    return sum([number * held[end] for number, end in zip(total, ends_by(following))]) < 0


def is_against_from_zero(council, order, total, thing):
    """Likewise with numbers from 0 on."""
    council, order, total = frozen((council, order, total))
    refuse_in_order(council, order)
    return is_pair_against(council, order, total, thing) and all([number >= 0 for _, number in thing[1]])


def is_nothing_in_order(council, order, total):
    """Whether the SUM is 0 FOR ALL WEIGHTS and all numbers that keep the order."""
    council, order, total = frozen((council, order, total))
    refuse_in_order(council, order)
    if sum(total) != 0:
        return False
    rows = all_parts(council, total)
    turned = [tuple([-number for number in row]) for row in rows]
    return is_never_below(council, order, rows + turned)


def idle_pairs(council, order, total):
    """The set of the pairs without each of which the SUM holds in order, too; () if it does not hold."""
    council, order, total = frozen((council, order, total))
    refuse_in_order(council, order)
    if sum(total) != 0:
        return ()
    rows = all_parts(council, total)
    # With fewer pairs less holds: if the SUM holds without one, it holds.
    return tuple([pair for pair in order
                  if is_never_below(council, tuple([told for told in order if told != pair]), rows)])


def at_most(council, order, one, other):
    """Whether one holds at most what other holds FOR ALL WEIGHTS and all numbers that keep the order."""
    council, order = frozen((council, order))
    refuse_in_order(council, order, (one, other))
    lots = sets_upward(council, order)
    return all([second in some or first not in some for first, second in pairs_of_ends(council, one, other)
                for some in lots])


def pairs_of_ends(council, one, other):
    """The set of the pairs of the firm ones at which both end in some FOLLOWING."""
    return tuple(sorted(set([(ends[one], ends[other]) for ends in all_ends(council)])))


def needed_pairs(council, one, other):
    """The set of the pairs of unlike firm ones at which both end in some FOLLOWING."""
    council = frozen(council)
    refuse(council, (one, other))
    return tuple([(first, second) for first, second in pairs_of_ends(council, one, other) if first != second])


def refuse_in_bounds(council, bounds, members=()):
    """Raises what is due for the numbers in the bounds' triples and these members, or as the COUNCIL is not sound."""
    named = [firm for firm, _, _ in bounds]
    refuse(council, named + list(members), (), named)


def stretches(council, bounds):
    """For each firm one the pair of the least and the greatest number that it may hold."""
    found = {firm: (council[firm], council[firm]) for firm in firm_in(council)}
    for firm, low, high in bounds:
        found[firm] = (low, high)
    return found


def least_by_firm(council, bounds, total):
    """The least value of the SUM by the ENDS of all FOLLOWINGS and all that firm ones may hold."""
    return -greatest_by_firm(council, bounds, [-number for number in total])


def greatest_by_firm(council, bounds, total):
    """The greatest value of the SUM by the ENDS of all FOLLOWINGS and all that firm ones may hold."""
    council, bounds, total = frozen((council, bounds, total))
    refuse_in_bounds(council, bounds)
    held = list(stretches(council, bounds).values())
    return max([sum([number * (high if number > 0 else low) for number, (low, high) in zip(row, held)])
                for row in all_parts(council, total)])


def stretch_by_firm(council, bounds, member):
    """The pair of both for what this MEMBER holds."""
    council, bounds = frozen((council, bounds))
    refuse_in_bounds(council, bounds, (member,))
    held = stretches(council, bounds)
    ends = ends_reached(council, member)
    return (min([held[firm][0] for firm in ends]), max([held[firm][1] for firm in ends]))
