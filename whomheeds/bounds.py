"""WEIGHTS within BOUNDS, and what comes by those that fit (section 12)."""

from whomheeds.basics import are_numbers, are_tuples, asks, best_front, frozen, is_less, refuse
from whomheeds.between import weights_on_the_way
from whomheeds.errors import NoNumber
from whomheeds.voices import are_weights, sum_parts, value_of, voice_of


def is_bounds(council, thing):
    """Whether thing is BOUNDS of the COUNCIL, be it sound or not."""
    council = frozen(council)
    if not isinstance(thing, tuple) or len(thing) != len(council):
        return False
    return all([are_pairs(row, len(asks(council, number))) for number, row in enumerate(thing)])


def are_pairs(thing, many):
    """Whether thing is a tuple of so many pairs of numbers from 1, the first one of each not above the other."""
    if not are_tuples(thing, 2) or len(thing) != many or not all([are_numbers(pair) for pair in thing]):
        return False
    return all([1 <= least <= greatest for least, greatest in thing])


def fit_bounds(council, bounds, weights):
    """Whether the WEIGHTS fit."""
    bounds, weights = frozen((bounds, weights))
    return all([row_fits(pairs, row) for pairs, row in zip(bounds, weights)])


def row_fits(pairs, row):
    """Whether no number, by the greatest of its pair, is more than another one by the least of its own."""
    told = list(zip(row, pairs))
    return all([number * least <= other * greatest for number, (_, greatest) in told for other, (least, _) in told])


def narrower(council, bounds, other):
    """Whether all WEIGHTS that fit bounds fit other: the greatest of one beside the least of another decides."""
    bounds, other = frozen((bounds, other))
    return all([is_row_narrower(pairs, wide) for pairs, wide in zip(bounds, other)])


def is_row_narrower(pairs, wide):
    places = range(len(pairs))
    return all([pairs[one][1] * wide[two][0] <= pairs[two][0] * wide[one][1]
                for one in places for two in places if one != two])


def is_corner(council, bounds, thing):
    """Whether thing is a CORNER."""
    council, bounds = frozen((council, bounds))
    if not are_weights(council, thing):
        return False
    return all([number in pair for pairs, row in zip(bounds, thing) for pair, number in zip(pairs, row)])


def how_many_corners(council, bounds):
    """How many CORNERS there are."""
    many = 1
    for pairs in frozen(bounds):
        for least, greatest in pairs:
            many *= 1 if least == greatest else 2
    return many


def nth_corner(council, bounds, number):
    """The CORNER with this number, of all, ascending."""
    bounds = frozen(bounds)
    if not 0 <= number < how_many_corners(council, bounds):
        raise NoNumber(number)
    corner = []
    ahead = number
    # The last pair that has two numbers turns first.
    for pairs in bounds[::-1]:
        row = []
        for least, greatest in pairs[::-1]:
            row.append(greatest if ahead % 2 == 1 else least)
            if least < greatest:
                ahead = ahead // 2
        corner.append(tuple(row[::-1]))
    return tuple(corner[::-1])


def highest_voice(council, bounds):
    """For each MEMBER the greatest FRACTION that it holds by WEIGHTS that fit."""
    return best_by(council, bounds, 1)[1]


def lowest_voice(council, bounds):
    """For each MEMBER the least FRACTION that it holds by WEIGHTS that fit."""
    return best_by(council, bounds, -1)[1]


def highest_corner(council, bounds):
    """A CORNER by which all hold the greatest."""
    return best_by(council, bounds, 1)[0]


def lowest_corner(council, bounds):
    """A CORNER by which all hold the least."""
    return best_by(council, bounds, -1)[0]


def best_by(council, bounds, sign):
    """A pair: a CORNER by which all hold the greatest, for sign -1 the least, and its VOICE.

    Each asker gives all the weight it may to those that hold more than it does, as little as it may to those that
    hold less. By that nobody sinks, and somebody rises as long as anything is changed, so this comes to an end.
    """
    council, bounds = frozen((council, bounds))
    refuse(council)
    corner = tuple([tuple([least for least, _ in pairs]) for pairs in bounds])
    voice = voice_of(council, corner)
    better = turned_up(council, bounds, corner, voice, sign)
    while better != corner:
        corner = better
        voice = voice_of(council, corner)
        better = turned_up(council, bounds, corner, voice, sign)
    return (corner, voice)


def turned_up(council, bounds, corner, voice, sign):
    """The CORNER with the greatest weight on who holds more than the asker, the least on who holds less."""
    rows = []
    for member, pairs in enumerate(bounds):
        own_top, own_bottom = voice[member]
        row = []
        for goal, (least, greatest), number in zip(asks(council, member), pairs, corner[member]):
            more = (voice[goal][0] * own_bottom - own_top * voice[goal][1]) * sign
            row.append(greatest if more > 0 else least if more < 0 else number)
        rows.append(tuple(row))
    return tuple(rows)


def is_highest(council, bounds, thing):
    """Whether thing is WEIGHTS that fit, by which all hold the greatest."""
    return has_voice(council, bounds, thing, highest_voice(council, bounds))


def is_lowest(council, bounds, thing):
    """Whether thing is WEIGHTS that fit, by which all hold the least."""
    return has_voice(council, bounds, thing, lowest_voice(council, bounds))


def has_voice(council, bounds, thing, voice):
    """Whether thing is WEIGHTS that fit, with this VOICE."""
    council = frozen(council)
    return do_fit(council, bounds, thing) and voice_of(council, thing) == voice


def do_fit(council, bounds, thing):
    """Whether thing is WEIGHTS that fit."""
    return are_weights(council, thing) and fit_bounds(council, bounds, thing)


def may_hold_within(council, bounds, member, fraction):
    """Whether the MEMBER holds just this FRACTION by some WEIGHTS that fit."""
    council = frozen(council)
    refuse(council, (member,))
    top, bottom = fraction
    low_top, low_bottom = lowest_voice(council, bounds)[member]
    high_top, high_bottom = highest_voice(council, bounds)[member]
    return low_top * bottom <= top * low_bottom and top * high_bottom <= high_top * bottom


def valued_corners(council, bounds, total):
    """For each CORNER, ascending, the pair of it and the value of the SUM by it, as top and bottom."""
    council, bounds, total = frozen((council, bounds, total))
    refuse(council)
    return [(corner, sum_parts(council, corner, total)) for corner in all_corners(bounds)]


def all_corners(bounds):
    """The ascending list of all CORNERS."""
    found = [()]
    for pairs in bounds:
        rows = [()]
        for pair in pairs:
            rows = [row + (number,) for row in rows for number in sorted(set(pair))]
        found = [corner + (row,) for corner in found for row in rows]
    return found


def least_within(council, bounds, total):
    """The least value of the SUM by WEIGHTS that fit."""
    return value_there(council, corner_of_least(council, bounds, total), total)


def greatest_within(council, bounds, total):
    """The greatest value of the SUM by WEIGHTS that fit."""
    return value_there(council, corner_of_greatest(council, bounds, total), total)


def value_there(council, corner, total):
    """The value of the SUM by this CORNER."""
    council, total = frozen((council, total))
    return value_of(council, corner, total)


def corner_of_least(council, bounds, total):
    """The least CORNER that has the least value."""
    return best_front(valued_corners(council, bounds, total), -1)


def corner_of_greatest(council, bounds, total):
    """The least CORNER that has the greatest value."""
    return best_front(valued_corners(council, bounds, total), 1)


def against_within(council, bounds, total):
    """WEIGHTS that fit by which the SUM is below 0; None if there are none."""
    return corner_below(council, bounds, total, 0)


def corner_below(council, bounds, total, number):
    """A CORNER by which the SUM is below number; None if there is none."""
    corner = corner_of_least(council, bounds, total)
    return corner if is_less(value_there(council, corner, total), (number, 1)) else None


def is_against_within(council, bounds, total, thing):
    """Whether thing is such WEIGHTS."""
    council, total = frozen((council, total))
    refuse(council)
    return is_below_within(council, bounds, total, 0, thing)


def is_below_within(council, bounds, total, number, thing):
    """Whether thing is WEIGHTS that fit by which the SUM is below number."""
    return do_fit(council, bounds, thing) and is_less(value_of(council, thing, total), (number, 1))


def weights_within(council, bounds, total, fraction):
    """WEIGHTS that fit by which the SUM is just this; None if there are none."""
    pairs = valued_corners(council, bounds, total)
    low, high = best_front(pairs, -1), best_front(pairs, 1)
    council, total, fraction = frozen((council, total, fraction))
    return weights_on_the_way(council, low, high, total, fraction)


def is_weights_within(council, bounds, total, fraction, thing):
    """Whether thing is such WEIGHTS."""
    council, total, fraction = frozen((council, total, fraction))
    refuse(council)
    return do_fit(council, bounds, thing) and value_of(council, thing, total) == fraction
