"""FOLLOWINGS: counted, listed, led to one another, priced (section 5)."""

from whomheeds.basics import are_numbers, arcs, ascend, askers_in, frozen, is_firm, is_number, is_set_of_numbers
from whomheeds.basics import lost_ones, put_at, reach_of, refuse, shut_among
from whomheeds.errors import NoNumber, Unfit
from whomheeds.voices import even_weights, lone, solved, weight_of_all, weight_to


def is_following(council, thing):
    """Whether thing is a FOLLOWING of the COUNCIL."""
    council = frozen(council)
    refuse(council)
    return is_plain_following(council, thing)


def is_plain_following(council, thing):
    """As is_following, nothing refused."""
    if not are_numbers(thing) or len(thing) != len(council):
        return False
    if not all([goal in goals_of(council, number) for number, goal in enumerate(thing)]):
        return False
    return all([is_firm(council, end) for end in ends_by(thing)])


def goals_of(council, number):
    """Those that may stand for this MEMBER in a FOLLOWING."""
    return (number,) if is_firm(council, number) else council[number]


def ends_by(following):
    """For each MEMBER whom one comes to from it; an asker only if it follows into a ring."""
    ends = following
    # Each step but the last leads to somebody new, or round a ring.
    for _ in range(len(following)):
        ends = tuple([following[number] for number in ends])
    return ends


def ends_of(council, following):
    """The ENDS of the FOLLOWING."""
    council, following = frozen((council, following))
    refuse(council)
    return ends_by(following)


def product_of(council, weights, following):
    """The product of the weights of the arcs that it follows, 1 for none."""
    council, weights, following = frozen((council, weights, following))
    refuse(council)
    product = 1
    for number in numbers_followed(council, weights, following):
        product *= number
    return product


def numbers_followed(council, rows, following):
    """The numbers, in rows that are like WEIGHTS, of the arcs that the FOLLOWING follows."""
    return [rows[asker][council[asker].index(following[asker])] for asker in askers_in(council)]


def how_many(council):
    """How many FOLLOWINGS there are."""
    council = frozen(council)
    refuse(council)
    return count_of(council)


def count_of(council):
    """How many FOLLOWINGS there are; 0 if somebody is lost."""
    return weight_of_all(council, even_weights(council))


def how_many_with(council, choices):
    """How many FOLLOWINGS have these choices."""
    return count_of(narrowed_by(council, choices))


def narrowed_by(council, choices):
    """The COUNCIL in which each asker in choices asks the MEMBER beside it alone; refuses what does not fit."""
    council, choices = frozen((council, choices))
    refuse(council, [number for pair in choices for number in pair], [asker for asker, _ in choices])
    if not all([member in council[asker] for asker, member in choices]):
        raise Unfit()
    for asker, member in choices:
        council = put_at(council, asker, (member,))
    return council


def how_many_ending(council, member, firm):
    """By how many FOLLOWINGS member ends at firm."""
    council = frozen(council)
    return weight_to(council, even_weights(council), member, firm)


def all_followings(council):
    """The ascending list of all FOLLOWINGS."""
    council = frozen(council)
    refuse(council)
    return [row for row, _ in rows_and_ends(council)]


def rows_and_ends(council):
    """For each FOLLOWING, ascending, the pair of it and its ENDS."""
    plain = tuple(range(len(council)))
    begun = [(plain, plain)]
    chosen = askers_in(council)
    for place, asker in enumerate(chosen):
        begun = [(put_at(row, asker, goal), led_on(ends, asker, goal)) for row, ends in begun
                 for goal in ways_left(council, ends, asker, chosen[place + 1:])]
    return begun


def all_ends(council):
    """The set of the ENDS of all FOLLOWINGS."""
    return tuple(sorted(set([ends for _, ends in rows_and_ends(council)])))


def led_on(ends, asker, goal):
    """To whom each MEMBER comes when asker follows goal, too; who follows nobody yet comes to itself."""
    return tuple([ends[goal] if end == asker else end for end in ends])


def ways_left(council, ends, asker, later):
    """Those whom asker may follow, such that all later ones can still follow somebody to a firm one."""
    if len(council[asker]) == 1:
        return council[asker]
    asked = {number: [ends[goal] for goal in council[number]] for number in later}
    asked[asker] = ()
    shut = shut_among(asked, asked)
    return [goal for goal in council[asker] if ends[goal] not in shut]


def arc_counts(council, asker):
    """For each one that asker asks how many FOLLOWINGS follow this arc.

    They are those of the COUNCIL with asker firm by which the one that is asked does not end at it.
    """
    cut = put_at(council, asker, 0)
    total, table = solved(cut, even_weights(cut), [lone(cut, asker)])
    return [total - table[goal][0] for goal in council[asker]]


def nth_following(council, number):
    """The FOLLOWING with this place in the ascending list of all."""
    council = frozen(council)
    refuse(council)
    if not 0 <= number < count_of(council):
        raise NoNumber(number)
    ahead = number
    for asker in branching(council):
        counts = arc_counts(council, asker)
        at = 0
        while ahead >= counts[at]:
            ahead -= counts[at]
            at += 1
        council = put_at(council, asker, (council[asker][at],))
    return told_by(council)


def branching(council):
    """The askers that ask two or more."""
    return [asker for asker in askers_in(council) if len(council[asker]) > 1]


def ways_on(council, asker):
    """The sound COUNCILS in which asker asks but one of those that it asks here, that one ascending."""
    narrow = [put_at(council, asker, (goal,)) for goal in council[asker]]
    return [one for one in narrow if not lost_ones(one)]


def told_by(council):
    """The only FOLLOWING of a sound COUNCIL in which each asker asks but one."""
    return tuple([goals_of(council, number)[0] for number in range(len(council))])


def place_of(council, following):
    """The place of the FOLLOWING in the ascending list of all."""
    council, following = frozen((council, following))
    refuse(council)
    place = 0
    for asker in branching(council):
        at = council[asker].index(following[asker])
        if at > 0:
            place += sum(arc_counts(council, asker)[:at])
        council = put_at(council, asker, (following[asker],))
    return place


def goes_on(council, choices):
    """Whether some FOLLOWING has these choices."""
    return shut_in(council, choices) == ()


def shut_in(council, choices):
    """The set of the askers that are lost when each asker in choices asks the MEMBER beside it alone."""
    return lost_ones(narrowed_by(council, choices))


def completed(council, choices):
    """The least FOLLOWING with these choices; None if there is none."""
    council = narrowed_by(council, choices)
    if lost_ones(council):
        return None
    row = ends = tuple(range(len(council)))
    chosen = askers_in(council)
    for place, asker in enumerate(chosen):
        goal = ways_left(council, ends, asker, chosen[place + 1:])[0]
        row, ends = put_at(row, asker, goal), led_on(ends, asker, goal)
    return row


def turned(council, following, asker, member):
    """The FOLLOWING that is this one but that asker follows member."""
    council, following = frozen((council, following))
    refuse(council, (asker, member), (asker,))
    after = put_at(following, asker, member)
    # This refuses a member that asker does not ask, too.
    if not is_plain_following(council, after):
        raise Unfit()
    return after


def changes(council, one, other):
    """FOLLOWINGS from one to other, each next one unlike the one ahead at one asker, as few as can be.

    Those come first that other leads to a firm one by the fewest arcs: then all that it leads by are turned
    already, so that no ring can come to be.
    """
    council, one, other = frozen((council, one, other))
    refuse(council)
    steps = [one]
    for asker in sorted(unlike(one, other), key=lambda number: arcs_to_end(other, number)):
        steps.append(put_at(steps[-1], asker, other[asker]))
    return tuple(steps)


def unlike(one, other):
    """The numbers of those that follow unlike MEMBERS in both."""
    return [number for number in range(len(one)) if one[number] != other[number]]


def arcs_to_end(following, number):
    """How many arcs lead from this MEMBER to where it ends."""
    many = 0
    here = number
    while following[here] != here:
        here = following[here]
        many += 1
    return many


def is_changes(council, one, other, thing):
    """Whether thing is such a tuple as changes gives, as short as can be."""
    council, one, other = frozen((council, one, other))
    refuse(council)
    if not isinstance(thing, tuple) or len(thing) != len(unlike(one, other)) + 1:
        return False
    if not all([is_plain_following(council, step) for step in thing]):
        return False
    if thing[0] != one or thing[-1] != other:
        return False
    return all([len(unlike(step, later)) == 1 for step, later in zip(thing, thing[1:])])


def dead_arcs(council):
    """The set of the arcs that no FOLLOWING follows."""
    council = frozen(council)
    refuse(council)
    return tuple([arc for arc in arcs(council) if is_dead(council, arc)])


def is_dead(council, arc):
    """Whether no FOLLOWING follows the arc: somebody is lost if its asker asks nobody else."""
    asker, goal = arc
    return lost_ones(put_at(council, asker, (goal,))) != ()


def sure_arcs(council):
    """The set of the arcs that each FOLLOWING follows: those all beside which are dead."""
    dead = dead_arcs(council)
    alive = [arc for arc in arcs(frozen(council)) if arc not in dead]
    starts = [asker for asker, _ in alive]
    return tuple([arc for arc in alive if starts.count(arc[0]) == 1])


def price_of(council, prices, following):
    """The sum of the prices of the arcs that the FOLLOWING follows."""
    council, prices, following = frozen((council, prices, following))
    refuse(council)
    return sum(numbers_followed(council, prices, following))


def cheapest_following(council, prices):
    """Of the FOLLOWINGS with the least price the least."""
    council, prices = frozen((council, prices))
    refuse(council)
    costs = price_table(council, prices)
    least = least_price(council, costs)
    for asker in askers_in(council):
        for narrow in ways_on(council, asker):
            if least_price(narrow, costs) == least:
                council = narrow
                break
    return told_by(council)


def price_table(council, prices):
    """A dict with the price of each arc."""
    return {(asker, goal): price for asker in askers_in(council)
            for goal, price in zip(council[asker], prices[asker])}


def least_price(council, costs):
    """The least price of a FOLLOWING: the greatest sum of a LAYING."""
    return sum([number for _, number in lots_laid(council, costs)])


def laying(council, prices):
    """A LAYING with the greatest sum."""
    council, prices = frozen((council, prices))
    refuse(council)
    return tuple(sorted(lots_laid(council, price_table(council, prices))))


def lots_laid(council, costs):
    """The pairs of a LAYING with the greatest sum (Fulkerson).

    As long as somebody gets to nobody firm by arcs of which nothing is left to pay, a least lot that no such arc
    leads out of is laid, with the number that uses up what is left of some arc that leads out of it.
    """
    left = {arc: costs[arc] for arc in arcs(council)}
    found = []
    lot = shut_lot(council, left)
    while lot:
        leading = [(asker, goal) for asker in lot for goal in council[asker] if goal not in lot]
        number = min([left[arc] for arc in leading])
        for arc in leading:
            left[arc] -= number
        found.append((lot, number))
        lot = shut_lot(council, left)
    return found


def shut_lot(council, left):
    """A least set of askers, not (), that no arc leads out of of which nothing is left; () if there is none."""
    free = tuple([council[number] if is_firm(council, number) else
                  tuple([goal for goal in council[number] if left[(number, goal)] == 0])
                  for number in range(len(council))])
    return min([reach_of(free, number) for number in lost_ones(free)], key=len, default=())


def is_laying(council, prices, thing):
    """Whether thing is a LAYING with the greatest sum."""
    council, prices = frozen((council, prices))
    refuse(council)
    if not are_lots(council, thing):
        return False
    costs = price_table(council, prices)
    if not all([laid_on(arc, thing) <= costs[arc] for arc in arcs(council)]):
        return False
    return sum([number for _, number in thing]) == least_price(council, costs)


def are_lots(council, thing):
    """Whether thing is an ascending tuple of pairs (lot, number), the lots unlike sets of askers, not ()."""
    chosen = askers_in(council)
    if not isinstance(thing, tuple) or not all([is_lot(chosen, pair) for pair in thing]):
        return False
    return ascend([lot for lot, _ in thing])


def is_lot(chosen, pair):
    """Whether it is a pair of a set of some of these, not (), and a number from 1."""
    if not isinstance(pair, tuple) or len(pair) != 2:
        return False
    lot, number = pair
    if not is_set_of_numbers(lot) or len(lot) == 0 or not is_number(number):
        return False
    return number >= 1 and all([asker in chosen for asker in lot])


def laid_on(arc, lots):
    """What the numbers of the lots out of which the arc leads add up to."""
    asker, goal = arc
    return sum([number for lot, number in lots if asker in lot and goal not in lot])
