"""WEIGHTS, and the VOICES, shares and sums that come by them (section 4)."""

from math import gcd, lcm

from whomheeds.basics import added_up, are_numbers, asks, frozen, is_firm, lowest, put_at, refuse
from whomheeds.councils import askers, firm_ones
from whomheeds.errors import Unfit


def is_weights(council, thing):
    """Whether thing is WEIGHTS of the COUNCIL, however great."""
    council = frozen(council)
    refuse(council)
    if not isinstance(thing, tuple) or len(thing) != len(council):
        return False
    return all([is_row(row, len(asks(council, number))) for number, row in enumerate(thing)])


def is_row(thing, many):
    """Whether thing is a tuple of so many numbers from 1."""
    return are_numbers(thing) and len(thing) == many and all([number >= 1 for number in thing])


def equal_weights(council):
    """The WEIGHTS that are 1 throughout."""
    council = frozen(council)
    refuse(council)
    return tuple([(1,) * len(asks(council, number)) for number in range(len(council))])


def louder(council, weights, asker, number):
    """The WEIGHTS in which each weight of this asker is so many times as great."""
    council, weights = frozen((council, weights))
    refuse(council, (asker,), (asker,))
    return put_at(weights, asker, tuple([weight * number for weight in weights[asker]]))


def with_weight(council, weights, asker, member, number):
    """The WEIGHTS in which the weight by which asker asks member is number."""
    council, weights = frozen((council, weights))
    refuse(council, (asker, member), (asker,))
    if member not in council[asker]:
        raise Unfit()
    place = council[asker].index(member)
    return put_at(weights, asker, put_at(weights[asker], place, number))


def plain_weights(council, weights):
    """The WEIGHTS in which those of each asker are divided by their greatest common divisor."""
    council, weights = frozen((council, weights))
    refuse(council)
    return tuple([plain_row(row) for row in weights])


def plain_row(row):
    """The numbers above 0, divided by the greatest number that divides them all."""
    common = 0
    for number in row:
        common = gcd(common, number)
    return tuple([number // common for number in row])


def whole_weights(council, parts):
    """The least WEIGHTS by which each asker's weights are to one another as these FRACTIONS."""
    council, parts = frozen((council, parts))
    refuse(council)
    return tuple([whole_row(row) for row in parts])


def whole_row(row):
    """The least numbers that are to one another as these FRACTIONS."""
    common = 1
    for _, bottom in row:
        common = lcm(common, bottom)
    return plain_row(tuple([top * (common // bottom) for top, bottom in row]))


def mean_of(council, weights, voice, asker):
    """The mean, by the weights of asker, of what those it asks have in voice; a FRACTION."""
    council, weights, voice = frozen((council, weights, voice))
    refuse(council, (asker,), (asker,))
    return mean_heard(council, weights, voice, asker)


def mean_heard(council, weights, voice, asker):
    """As mean_of, nothing refused."""
    row = weights[asker]
    top, bottom = added_up(row, [voice[goal] for goal in council[asker]])
    return lowest(top, bottom * sum(row))


def off_means(council, weights, voice):
    """The set of the askers that have another FRACTION in voice than their mean, the firm ones than their number."""
    council, weights, voice = frozen((council, weights, voice))
    refuse(council)
    due = [(council[number], 1) if is_firm(council, number) else mean_heard(council, weights, voice, number)
           for number in range(len(council))]
    return tuple([number for number in range(len(council)) if voice[number] != due[number]])


def tree_sums(council, weights):
    """A pair: the total weight, and a row for each MEMBER, its weights to the firm ones.

    A row has the weight to each firm one at its number, and 0 at the askers. That an asker holds the mean of
    what it hears is an equation in whole numbers; these are solved together, nothing being divided with a rest.
    By the matrix tree theorem the last pivot is the total weight, and what is left are the weights to firm ones.
    """
    chosen = askers(council)
    rows = [mean_row(council, weights, asker) for asker in chosen]
    total = 1
    for place, asker in enumerate(chosen):
        pivot = rows[place]
        rows = [row if at == place else cleared(row, pivot, asker, total) for at, row in enumerate(rows)]
        total = pivot[asker]
    table = [[total if goal == number else 0 for goal in range(len(council))] for number in range(len(council))]
    firm = firm_ones(council)
    for asker, row in zip(chosen, rows):
        table[asker] = [-row[goal] if goal in firm else 0 for goal in range(len(council))]
    return (total, table)


def mean_row(council, weights, asker):
    """Numbers, one for each MEMBER, that times what these hold add up to 0: the sum of the weights for the asker."""
    row = [0] * len(council)
    for goal, weight in zip(council[asker], weights[asker]):
        row[goal] -= weight
        row[asker] += weight
    return row


def cleared(row, pivot, column, last):
    """The row, so many times, less the pivot's row, so many times, that nothing is left of it in this column.

    It is divided by the pivot ahead, last, which always divides it (Bareiss), so that numbers stay small. In a
    sound COUNCIL no pivot is 0: each is the total weight if the askers behind its own were firm.
    """
    own, other = pivot[column], row[column]
    return [(own * part - other * below) // last for part, below in zip(row, pivot)]


def voice_by(council, weights):
    """The VOICE by these WEIGHTS."""
    council, weights = frozen((council, weights))
    refuse(council)
    total, table = tree_sums(council, weights)
    return tuple([voice_of(council, total, row) for row in table])


def voice_of(council, total, row):
    """The FRACTION that a MEMBER holds that has this row of weights to firm ones."""
    held = [council[number] * row[number] for number in range(len(council)) if is_firm(council, number)]
    return lowest(sum(held), total)


def is_voice(council, weights, thing):
    """Whether thing is the VOICE by these WEIGHTS."""
    voice = voice_by(council, weights)
    # Kinds are looked at first: for Python (True, 1) == (1, 1).
    return is_row_of_pairs(thing) and thing == voice


def is_row_of_pairs(thing):
    """Whether thing is a tuple of pairs of numbers."""
    return isinstance(thing, tuple) and all([are_numbers(part) and len(part) == 2 for part in thing])


def share(council, weights, member, firm):
    """The share of firm in member; a FRACTION."""
    council, weights = frozen((council, weights))
    refuse(council, (member, firm), (), (firm,))
    total, table = tree_sums(council, weights)
    return lowest(table[member][firm], total)


def shares(council, weights, member):
    """For each MEMBER a FRACTION: for a firm one its share in member, for an asker 0."""
    council, weights = frozen((council, weights))
    refuse(council, (member,))
    total, table = tree_sums(council, weights)
    return tuple([lowest(number, total) for number in table[member]])


def same_shares(council, weights, other):
    """Whether each firm one has by both WEIGHTS the same share in each MEMBER."""
    council, weights, other = frozen((council, weights, other))
    refuse(council)
    return all_shares(council, weights) == all_shares(council, other)


def all_shares(council, weights):
    """For each MEMBER the list of the shares in it."""
    total, table = tree_sums(council, weights)
    return [[lowest(number, total) for number in row] for row in table]


def total_weight(council, weights):
    """The sum, over all FOLLOWINGS, of the product of the weights of the arcs that they follow."""
    council, weights = frozen((council, weights))
    refuse(council)
    return tree_sums(council, weights)[0]


def weight_to(council, weights, member, firm):
    """The sum of these products over the FOLLOWINGS by which member ends at firm."""
    council, weights = frozen((council, weights))
    refuse(council, (member, firm), (), (firm,))
    return tree_sums(council, weights)[1][member][firm]


def sum_at(council, weights, total):
    """The value of the SUM by these WEIGHTS; a FRACTION."""
    return added_up(frozen(total), voice_by(council, weights))


def wish_at(council, weights, wish):
    """The value of the WISH by these WEIGHTS; a FRACTION."""
    council, weights, wish = frozen((council, weights, wish))
    named = [number for member, firm, _ in wish for number in (member, firm)]
    refuse(council, named, (), [triple[1] for triple in wish])
    total, table = tree_sums(council, weights)
    return lowest(sum([number * table[member][firm] for member, firm, number in wish]), total)
