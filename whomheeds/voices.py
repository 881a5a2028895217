"""WEIGHTS, and the VOICES, shares and sums that come by them (section 4)."""

from math import gcd

from whomheeds.basics import added_up, are_numbers, are_tuples, asks, askers_in, firm_in, frozen, is_firm, lowest
from whomheeds.basics import on_one_bottom, put_at, refuse
from whomheeds.errors import Unfit


def is_weights(council, thing):
    """Whether thing is WEIGHTS of the COUNCIL, however great."""
    council = frozen(council)
    refuse(council)
    return are_weights(council, thing)


def are_weights(council, thing):
    """As is_weights, nothing refused."""
    if not isinstance(thing, tuple) or len(thing) != len(council):
        return False
    return all([is_row(row, len(asks(council, number))) for number, row in enumerate(thing)])


def is_row(thing, many):
    """Whether thing is a tuple of so many numbers from 1."""
    return are_numbers(thing) and len(thing) == many and all([number >= 1 for number in thing])


def equal_weights(council):
    """The WEIGHTS that are 1 throughout."""
    council = frozen(council)
    refuse(council)
    return even_weights(council)


def even_weights(council):
    """As equal_weights, nothing refused."""
    return tuple([(1,) * len(asks(council, number)) for number in range(len(council))])


def weights_on(council, lots, number):
    """The WEIGHTS with number for those of the lot at the asker's place, 1 for all others that it asks."""
    return tuple([tuple([number if goal in lot else 1 for goal in asks(council, member)])
                  for member, lot in enumerate(lots)])


def loud_enough(council, over):
    """A number by which weights_on some lots bring a value below a limit that it is below by plain means of them.

    Each FOLLOWING adds, times its weight, by how much its value goes beyond the limit, in whole numbers. Those
    within the lots, all of one weight, add up to below 0; each other one goes beyond by over at the most, and has
    one loud arc less at least. There are not more FOLLOWINGS than the product here.
    """
    many = 1
    for asker in askers_in(council):
        many *= len(council[asker])
    return 1 + many * max(0, over)


def louder(council, weights, asker, number):
    """The WEIGHTS in which each weight of this asker is so many times as great."""
    council, weights = frozen((council, weights))
    refuse(council, (asker,), (asker,))
    return put_at(weights, asker, tuple([weight * number for weight in weights[asker]]))


def with_weight(council, weights, asker, member, number):
    """The WEIGHTS in which the weight by which asker asks member is number."""
    council, weights = frozen((council, weights))
    refuse(council, (asker, member), (asker,))
    if member not in council[asker]:
        raise Unfit()
    place = council[asker].index(member)
    return put_at(weights, asker, put_at(weights[asker], place, number))


def plain_weights(council, weights):
    """The WEIGHTS in which those of each asker are divided by their greatest common divisor."""
    council, weights = frozen((council, weights))
    refuse(council)
    return tuple([plain_row(row) for row in weights])


def plain_row(row):
    """The numbers above 0, divided by the greatest number that divides them all."""
    common = 0
    for number in row:
        common = gcd(common, number)
    return tuple([number // common for number in row])


def whole_weights(council, parts):
    """The least WEIGHTS by which each asker's weights are to one another as these FRACTIONS."""
    council, parts = frozen((council, parts))
    refuse(council)
    return tuple([whole_row(row) for row in parts])


def whole_row(row):
    """The least numbers that are to one another as these FRACTIONS."""
    return plain_row(on_one_bottom(row)[0])


def mean_of(council, weights, voice, asker):
    """The mean, by the weights of asker, of what those it asks have in voice; a FRACTION."""
    council, weights, voice = frozen((council, weights, voice))
    refuse(council, (asker,), (asker,))
    return mean_heard(council, weights, voice, asker)


def mean_heard(council, weights, voice, asker):
    """As mean_of, nothing refused."""
    row = weights[asker]
    top, bottom = added_up(row, [voice[goal] for goal in council[asker]])
    return lowest(top, bottom * sum(row))


def off_means(council, weights, voice):
    """The set of the askers that have another FRACTION in voice than their mean, the firm ones than their number."""
    council, weights, voice = frozen((council, weights, voice))
    refuse(council)
    due = [(council[number], 1) if is_firm(council, number) else mean_heard(council, weights, voice, number)
           for number in range(len(council))]
    return tuple([number for number in range(len(council)) if voice[number] != due[number]])


def equations(council, weights):
    """For each asker the equation that it holds the mean of what it hears, as a list of whole numbers.

    Times what the askers hold these add up to what the asker hears of firm ones, each times its weight. By the
    matrix tree theorem the determinant is the total weight.
    """
    chosen = askers_in(council)
    return [equation(council, weights, asker, chosen) for asker in chosen]


def equation(council, weights, asker, chosen):
    row = {number: 0 for number in chosen}
    row[asker] = sum(weights[asker])
    for goal, weight in zip(council[asker], weights[asker]):
        if goal in row:
            row[goal] -= weight
    return list(row.values())


def heard(council, weights, asker, held):
    """What the asker hears of firm ones that hold these numbers, each times its weight."""
    return sum([weight * held[goal] for goal, weight in zip(council[asker], weights[asker]) if is_firm(council, goal)])


def cleared(row, pivot, last):
    """What is left of the row when so many times the pivot's row is taken from so many times this one.

    It is divided by the pivot ahead, last, which always divides it (Bareiss), so that numbers stay small.
    """
    own, other = pivot[0], row[0]
    if other == 0 and own == last:
        return row[1:]
    return [(own * part - other * below) // last for part, below in zip(row[1:], pivot[1:])]


def pivots(rows):
    """The numbers 1, then each pivot: the determinants of the first rows, one, two and so on, up to one that is 0.

    In a sound COUNCIL none is 0: each is the total weight if the askers behind its own were firm.
    """
    found = [1]
    while rows and found[-1] != 0:
        first, last = rows[0], found[-1]
        found.append(first[0])
        rows = [cleared(row, first, last) for row in rows[1:]]
    return found


def weight_of_all(council, weights):
    """The total weight; 0 if somebody is lost."""
    return pivots(equations(council, weights))[-1]


def sum_parts(council, weights, total):
    """The value of the SUM as a pair: its top and its bottom, this being the total weight; maybe not in least terms.

    The SUM stands below the equations as one row more; the determinant of them all is its value, times the
    total weight.
    """
    rows = [row + [heard(council, weights, asker, council)]
            for asker, row in zip(askers_in(council), equations(council, weights))]
    own = sum([total[number] * council[number] for number in firm_in(council)])
    rows.append([-total[asker] for asker in askers_in(council)] + [own])
    bottom, top = pivots(rows)[-2:]
    return (top, bottom)


def solved(council, weights, held):
    """A pair: the total weight, and a row for each MEMBER: so many times what it holds, for each row in held.

    A row in held has a number for each firm one at its place: what this one holds.
    """
    chosen = askers_in(council)
    rows = [row + [heard(council, weights, asker, numbers) for numbers in held]
            for asker, row in zip(chosen, equations(council, weights))]
    last = 1
    for place in range(len(chosen)):
        first = rows[place]
        rows = [row[1:] if at == place else cleared(row, first, last) for at, row in enumerate(rows)]
        last = first[0]
    found = dict(zip(chosen, rows))
    for firm in firm_in(council):
        found[firm] = [last * numbers[firm] for numbers in held]
    return (last, [found[number] for number in range(len(council))])


def lone(council, number):
    """For each MEMBER 0, but 1 for this one."""
    return put_at((0,) * len(council), number, 1)


def shares_table(council, weights):
    """A pair: the total weight, and a row for each MEMBER: at each firm one its weight to it, at askers 0."""
    firm = firm_in(council)
    total, table = solved(council, weights, [lone(council, number) for number in firm])
    rows = [dict(zip(firm, row)) for row in table]
    return (total, [tuple([row.get(number, 0) for number in range(len(council))]) for row in rows])


def voice_of(council, weights):
    """As voice_by, nothing refused."""
    total, table = solved(council, weights, [council])
    return tuple([lowest(row[0], total) for row in table])


def voice_by(council, weights):
    """The VOICE by these WEIGHTS."""
    council, weights = frozen((council, weights))
    refuse(council)
    return voice_of(council, weights)


def is_voice(council, weights, thing):
    """Whether thing is the VOICE by these WEIGHTS."""
    voice = voice_by(council, weights)
    # Kinds are looked at first: for Python (True, 1) == (1, 1).
    return are_tuples(thing, 2) and all([are_numbers(part) for part in thing]) and thing == voice


def share(council, weights, member, firm):
    """The share of firm in member; a FRACTION."""
    council, weights = frozen((council, weights))
    refuse(council, (member, firm), (), (firm,))
    total, table = solved(council, weights, [lone(council, firm)])
    return lowest(table[member][0], total)


def shares(council, weights, member):
    """For each MEMBER a FRACTION: for a firm one its share in member, for an asker 0."""
    council, weights = frozen((council, weights))
    refuse(council, (member,))
    total, table = shares_table(council, weights)
    return tuple([lowest(number, total) for number in table[member]])


def same_shares(council, weights, other):
    """Whether each firm one has by both WEIGHTS the same share in each MEMBER."""
    council, weights, other = frozen((council, weights, other))
    refuse(council)
    return all_shares(council, weights) == all_shares(council, other)


def all_shares(council, weights):
    """For each MEMBER the list of the shares in it."""
    total, table = shares_table(council, weights)
    return [[lowest(number, total) for number in row] for row in table]


def total_weight(council, weights):
    """The sum, over all FOLLOWINGS, of the product of the weights of the arcs that they follow."""
    council, weights = frozen((council, weights))
    refuse(council)
    return weight_of_all(council, weights)


def weight_to(council, weights, member, firm):
    """The sum of these products over the FOLLOWINGS by which member ends at firm."""
    council, weights = frozen((council, weights))
    refuse(council, (member, firm), (), (firm,))
    return solved(council, weights, [lone(council, firm)])[1][member][0]


def sum_at(council, weights, total):
    """The value of the SUM by these WEIGHTS; a FRACTION."""
    council, weights, total = frozen((council, weights, total))
    refuse(council)
    return value_of(council, weights, total)


def value_of(council, weights, total):
    """As sum_at, nothing refused."""
    top, bottom = sum_parts(council, weights, total)
    return lowest(top, bottom)


def wish_at(council, weights, wish):
    """The value of the WISH by these WEIGHTS; a FRACTION."""
    council, weights, wish = frozen((council, weights, wish))
    refuse_in_wish(council, wish)
    total, table = shares_table(council, weights)
    return lowest(sum([number * table[member][firm] for member, firm, number in wish]), total)


def refuse_in_wish(council, wish):
    """Raises what is due for the numbers in the WISH, or as the COUNCIL is not sound."""
    named = [number for member, firm, _ in wish for number in (member, firm)]
    refuse(council, named, (), [firm for _, firm, _ in wish])
