"""What one asker may hold, FOR ALL WEIGHTS (section 6)."""

from whomheeds.basics import askers_in, ends_reached, firm_in, frozen, is_between, refuse
from whomheeds.errors import NoWord, Unfit
from whomheeds.follows import ends_by, is_plain_following
from whomheeds.voices import are_weights, even_weights, lone, loud_enough, value_of, weights_on


def ends_at(council, member):
    """The set of the firm MEMBERS that this one reaches."""
    council = frozen(council)
    refuse(council, (member,))
    return ends_reached(council, member)


def least_held(council, member):
    """The least number that these hold."""
    return range_of(council, member)[0]


def greatest_held(council, member):
    """The greatest number that these hold."""
    return range_of(council, member)[1]


def range_of(council, member):
    """The pair of the least and the greatest number held by the firm ones that the MEMBER reaches."""
    council = frozen(council)
    numbers = [council[firm] for firm in ends_at(council, member)]
    return (min(numbers), max(numbers))


def can_hold(council, member, fraction):
    """Whether the MEMBER holds just this FRACTION by some WEIGHTS."""
    low, high = range_of(council, member)
    return is_between(frozen(fraction), low, high)


def always_above(council, member, number):
    """Whether FOR ALL WEIGHTS the MEMBER holds more than number."""
    low, high = range_of(council, member)
    return is_above(low, high, number)


def is_above(low, high, number):
    """Whether all that lies strictly between low and high, just this number if they are one, is above number."""
    return low > number or low == number < high


def always_from(council, member, number):
    """Whether FOR ALL WEIGHTS the MEMBER holds number or more."""
    return range_of(council, member)[0] >= number


def low_weights(council, member, number):
    """WEIGHTS by which the MEMBER does not hold more than number; None if it always does."""
    council = frozen(council)
    low, high = range_of(council, member)
    if is_above(low, high, number):
        return None
    if low == high:
        return even_weights(council)
    row = best_row(council, "least")
    return weights_on(council, [(goal,) for goal in row], loud_enough(council, high - number))


def is_low(council, member, number, thing):
    """Whether thing is WEIGHTS, however great, by which the MEMBER does not hold more than number."""
    council = frozen(council)
    refuse(council, (member,))
    if not are_weights(council, thing):
        return False
    top, bottom = value_of(council, thing, lone(council, member))
    return top <= number * bottom


def refuse_word(word):
    """Raises NoWord for any word but the two."""
    if word != "least" and word != "greatest":
        raise NoWord(word)


def best_following(council, word):
    """A FOLLOWING by which each MEMBER ends at a firm one with the greatest, the least number that it reaches."""
    refuse_word(word)
    council = frozen(council)
    refuse(council)
    return best_row(council, word)


def best_row(council, word):
    """As best_following, nothing refused.

    The firm ones with the best number come first, then those with the next one: whoever is not led to the better
    ones reaches none of them, nor do those by whom it reaches the next ones.
    """
    firm = firm_in(council)
    row = list(range(len(council)))
    led = {}
    numbers = sorted(set([council[number] for number in firm]))
    for best in numbers if word == "least" else numbers[::-1]:
        for number in firm:
            if council[number] == best:
                led[number] = True
        lead_on(council, row, led)
    return tuple(row)


def lead_on(council, row, led):
    """Leads all that reach those in led to them; changes row and led."""
    many = 0
    while len(led) > many:
        many = len(led)
        for asker in askers_in(council):
            goals = [goal for goal in council[asker] if goal in led]
            if goals and asker not in led:
                row[asker] = goals[0]
                led[asker] = True


def best_numbers(council, word):
    """For each MEMBER the greatest, the least number held by firm ones that it reaches."""
    return [council[end] for end in ends_by(best_row(council, word))]


def is_best(council, word, thing):
    """Whether thing is a FOLLOWING as best_following tells."""
    refuse_word(word)
    council = frozen(council)
    refuse(council)
    if not is_plain_following(council, thing):
        return False
    return [council[end] for end in ends_by(thing)] == best_numbers(council, word)


def plain_value(council, word, total):
    """The greatest, the least value of the SUM by all ENDS; refused if it has a number below 0 at some asker."""
    refuse_word(word)
    council, total = frozen((council, total))
    refuse(council)
    if any([total[asker] < 0 for asker in askers_in(council)]):
        raise Unfit()
    return sum([number * held for number, held in zip(total, best_numbers(council, word))])
