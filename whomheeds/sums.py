"""SUMS and WISHES FOR ALL WEIGHTS: what is sure of them, and what is against it (section 8)."""

from whomheeds.basics import are_numbers, are_tuples, ends_reached, firm_in, frozen, refuse
from whomheeds.follows import all_ends, ends_by, is_plain_following, rows_and_ends
from whomheeds.ranges import is_above
from whomheeds.voices import are_weights, even_weights, loud_enough, refuse_in_wish, sum_parts, weights_on


def value_at(council, following, total):
    """The value of the SUM by the ENDS of this FOLLOWING."""
    council, following, total = frozen((council, following, total))
    refuse(council)
    return sum_by(council, total, ends_by(following))


def sum_by(council, total, ends):
    """The value of the SUM by these ENDS."""
    return sum([number * council[end] for number, end in zip(total, ends)])


def wish_by(wish, ends):
    """The value of the WISH by these ENDS."""
    return sum([number for member, firm, number in wish if ends[member] == firm])


def sums_by_all(council, total):
    """For each FOLLOWING the pair of the value of the SUM by its ENDS and itself."""
    council, total = frozen((council, total))
    refuse(council)
    return [(sum_by(council, total, ends), row) for row, ends in rows_and_ends(council)]


def wishes_by_all(council, wish):
    """For each FOLLOWING the pair of the value of the WISH by its ENDS and itself."""
    council, wish = frozen((council, wish))
    refuse_in_wish(council, wish)
    return [(wish_by(wish, ends), row) for row, ends in rows_and_ends(council)]


def least_value(council, total):
    """The least value of the SUM by the ENDS of all FOLLOWINGS."""
    return min(sums_by_all(council, total))[0]


def greatest_value(council, total):
    """The greatest value of the SUM by the ENDS of all FOLLOWINGS."""
    return max(sums_by_all(council, total))[0]


def sign_of(council, total):
    """How the value of the SUM stands to 0 FOR ALL WEIGHTS: "above", "below", "nothing" or "either"."""
    return sign_within([value for value, _ in sums_by_all(council, total)])


def sign_within(values):
    """How all that lies strictly between these values stands to 0; just these, if they are one."""
    low, high = min(values), max(values)
    if low == high == 0:
        return "nothing"
    if low >= 0:
        return "above"
    return "below" if high <= 0 else "either"


def holds(council, total, number):
    """Whether the value of the SUM is never below number."""
    return least_value(council, total) >= number


def beside(council, member, other):
    """How what member holds stands to what other holds FOR ALL WEIGHTS: "above", "below", "alike" or "either"."""
    council = frozen(council)
    refuse(council, (member, other))
    word = sign_within([row[member] - row[other] for row in held_rows(council)])
    return "alike" if word == "nothing" else word


def held_rows(council):
    """The set of the rows of the numbers that the MEMBERS hold by the ENDS of all FOLLOWINGS."""
    return sorted(set([tuple([council[end] for end in ends]) for ends in all_ends(council)]))


def spans(council, totals):
    """For each of these SUMS the pair of its least and its greatest value, the FOLLOWINGS gone through but once."""
    rows = held_rows(council)
    found = []
    for total in totals:
        values = [sum([number * held for number, held in zip(total, row)]) for row in rows]
        found.append((min(values), max(values)))
    return found


def surely_below(council):
    """The ascending list of the pairs of MEMBERS the first one of which holds less FOR ALL WEIGHTS."""
    council = frozen(council)
    refuse(council)
    rows = held_rows(council)
    members = range(len(council))
    return [(member, other) for member in members for other in members if is_below(rows, member, other)]


def is_below(rows, member, other):
    """Whether member never has more than other in the rows, and not always as much."""
    if any([row[member] > row[other] for row in rows]):
        return False
    return any([row[member] < row[other] for row in rows])


def against(council, total, number):
    """A FOLLOWING by which the SUM is below number; None if there is none."""
    value, row = min(sums_by_all(council, total))
    return row if value < number else None


def is_against(council, total, number, thing):
    """Whether thing is such a FOLLOWING."""
    council, total = frozen((council, total))
    refuse(council)
    return is_plain_following(council, thing) and sum_by(council, total, ends_by(thing)) < number


def loud(council, following, number):
    """The WEIGHTS with number for whom an asker follows, 1 for all others."""
    council, following = frozen((council, following))
    refuse(council)
    return followed_loudly(council, following, number)


def followed_loudly(council, following, number):
    """As loud, nothing refused."""
    return weights_on(council, [(goal,) for goal in following], number)


def weights_against(council, total, number):
    """WEIGHTS by which the SUM is below number; None if there are none."""
    return loud_against(frozen(council), sums_by_all(council, total), number)


def loud_against(council, pairs, number):
    """WEIGHTS by which a value is below number, pairs telling it and its FOLLOWING for all; None if there are none."""
    value, row = min(pairs)
    if value >= number:
        return None
    return followed_loudly(council, row, loud_enough(council, max(pairs)[0] - number))


def weights_not_above(council, total, number):
    """WEIGHTS by which the SUM is not above number; None if it always is."""
    council = frozen(council)
    pairs = sums_by_all(council, total)
    if is_above(min(pairs)[0], max(pairs)[0], number):
        return None
    # If it is below number by no WEIGHTS, it is just this number by all.
    return loud_against(council, pairs, number) or even_weights(council)


def is_weights_against(council, total, number, thing):
    """Whether thing is such WEIGHTS, of however great numbers."""
    council, total = frozen((council, total))
    refuse(council)
    if not are_weights(council, thing):
        return False
    top, bottom = sum_parts(council, thing, total)
    return top < number * bottom


def is_wish(council, thing):
    """Whether thing is a WISH of the COUNCIL."""
    if not are_tuples(thing, 3) or not all([are_numbers(triple) for triple in thing]):
        return False
    firm = firm_in(council)
    return all([0 <= member < len(council) and end in firm for member, end, _ in thing])


def wish_weights_against(council, wish, number):
    """WEIGHTS by which the WISH is below number; None if there are none."""
    return loud_against(frozen(council), wishes_by_all(council, wish), number)


def least_wish(council, wish):
    """The least value of the WISH by the ENDS of all FOLLOWINGS."""
    return min(wishes_by_all(council, wish))[0]


def greatest_wish(council, wish):
    """The greatest value of the WISH by the ENDS of all FOLLOWINGS."""
    return max(wishes_by_all(council, wish))[0]


def sign_of_wish(council, wish):
    """How the value of the WISH stands to 0 FOR ALL WEIGHTS, as sign_of."""
    return sign_within([value for value, _ in wishes_by_all(council, wish)])


def against_wish(council, wish, number):
    """A FOLLOWING by which the WISH is below number; None if there is none."""
    value, row = min(wishes_by_all(council, wish))
    return row if value < number else None


def is_against_wish(council, wish, number, thing):
    """Whether thing is such a FOLLOWING."""
    council, wish = frozen((council, wish))
    refuse_in_wish(council, wish)
    return is_plain_following(council, thing) and wish_by(wish, ends_by(thing)) < number


def wish_of(council, total):
    """The WISH, ascending, with the value of the SUM by each FOLLOWING and by all WEIGHTS."""
    council, total = frozen((council, total))
    refuse(council)
    wish = [(member, firm, council[firm] * number) for member, number in enumerate(total)
            for firm in ends_reached(council, member)]
    return tuple([triple for triple in wish if triple[2] != 0])
