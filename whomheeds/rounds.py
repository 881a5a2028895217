"""Rounds of talk: all askers at once take the mean of what those that they ask hold right then (section 17)."""

from whomheeds.basics import added_up, are_numbers, askers_in, asks, firm_in, frozen, is_firm, is_less, on_one_bottom
from whomheeds.basics import refuse_askers, refuse_lost, refuse_members
from whomheeds.orders import balanced, fits
from whomheeds.sums import greatest_value, least_value, weights_against
from whomheeds.voices import are_weights, mean_heard, voice_of


def is_begun(council, thing):
    """Whether thing is BEGINNINGS of the COUNCIL."""
    council = frozen(council)
    return are_numbers(thing) and len(thing) == len(council) and all(
        [thing[firm] == council[firm] for firm in firm_in(council)])


def after_talk(council, begun, talk):
    """The FRACTIONS that the MEMBERS hold behind the talk."""
    council, begun, talk = frozen((council, begun, talk))
    return held_behind(council, begun, talk)


def held_behind(council, begun, talk):
    """As after_talk, of tuples."""
    voice = tuple([(number, 1) for number in begun])
    for weights in talk:
        voice = tuple([voice[member] if is_firm(council, member) else mean_heard(council, weights, voice, member)
                       for member in range(len(council))])
    return voice


def round_weights(council, voice, other):
    """WEIGHTS by which one round leads from voice to other; None if there are none."""
    council, voice, other = frozen((council, voice, other))
    tops, _ = on_one_bottom(voice + other)
    rows = [[tops[goal] for goal in asks(council, member)] for member in range(len(council))]
    later = tops[len(council):]
    if not all([fits(later[asker], rows[asker]) for asker in askers_in(council)]):
        return None
    return tuple([balanced(own, heard) for own, heard in zip(later, rows)])


def is_round_weights(council, voice, other, thing):
    """Whether thing is such WEIGHTS."""
    council, voice, other = frozen((council, voice, other))
    if not are_weights(council, thing):
        return False
    return all([mean_heard(council, thing, voice, asker) == other[asker] for asker in askers_in(council)])


def unfolded(council, begun, rounds):
    """The COUNCIL of rounds + 1 layers: all firm in the first one, in each other one asking the layer ahead."""
    council, begun = frozen((council, begun))
    many = len(council)
    found = begun
    for layer in range(rounds):
        found = found + tuple([part if isinstance(part, int) else tuple([goal + layer * many for goal in part])
                               for part in council])
    return found


def least_after(council, begun, rounds, asker):
    """The least of the numbers between which, or just which, the asker holds behind talks of so many rounds."""
    return min(heard_after(council, begun, rounds, asker))


def greatest_after(council, begun, rounds, asker):
    """The greatest of them."""
    return max(heard_after(council, begun, rounds, asker))


def heard_after(council, begun, rounds, asker):
    """What those hold at first to whom rows of so many arcs lead, or of fewer to firm ones."""
    council = frozen(council)
    refuse_members(council, (asker,))
    refuse_askers(council, (asker,))
    staying = tuple([(member,) if is_firm(council, member) else council[member] for member in range(len(council))])
    return [begun[member] for member in come_to(staying, asker, rounds)]


def come_to(goals, start, rounds):
    """The set of those to whom rows of just so many steps lead, goals telling for each whither.

    These sets come round at last: then only what is left of rounds behind whole turns is to be gone.
    """
    rows = [(start,)]
    known = {}
    while len(rows) <= rounds and rows[-1] not in known:
        known[rows[-1]] = len(rows) - 1
        rows.append(tuple(sorted(set([goal for member in rows[-1] for goal in goals[member]]))))
    if len(rows) > rounds:
        return rows[rounds]
    first = known[rows[-1]]
    return rows[first + (rounds - first) % (len(rows) - 1 - first)]


def last_layer(council, rounds, total):
    """The SUM of the unfolded COUNCIL with these numbers in its last layer, 0 in all others."""
    return (0,) * (len(council) * rounds) + total


def total_after(council, begun, rounds, total):
    """The pair of the numbers between which, or just which, the values of the SUM lie behind such talks."""
    council, begun, total = frozen((council, begun, total))
    layers, last = unfolded(council, begun, rounds), last_layer(council, rounds, total)
    return (least_value(layers, last), greatest_value(layers, last))


def talk_against(council, begun, rounds, total, number):
    """A talk of so many rounds behind which the SUM is below number; None if there is none."""
    council, begun, total = frozen((council, begun, total))
    weights = weights_against(unfolded(council, begun, rounds), last_layer(council, rounds, total), number)
    if weights is None:
        return None
    many = len(council)
    return tuple([weights[layer * many:(layer + 1) * many] for layer in range(1, rounds + 1)])


def is_talk_against(council, begun, rounds, total, number, thing):
    """Whether thing is such a talk."""
    council, begun, total = frozen((council, begun, total))
    if not isinstance(thing, tuple) or len(thing) != rounds or not all([are_weights(council, part) for part in thing]):
        return False
    return is_less(added_up(total, held_behind(council, begun, thing)), (number, 1))


def asked_among(council):
    """For each asker those askers that it asks, for a firm one nobody."""
    return tuple([tuple([goal for goal in asks(council, member) if not is_firm(council, goal)])
                  for member in range(len(council))])


def hangs_on(council, asker, rounds):
    """The set of the askers whose numbers at first count for this one behind so many rounds."""
    council = frozen(council)
    refuse_members(council, (asker,))
    refuse_askers(council, (asker,))
    return come_to(asked_among(council), asker, rounds)


def rounds_till_free(council, asker):
    """The fewest rounds behind which no asker's number at first counts for this one; None if there are none."""
    council = frozen(council)
    refuse_members(council, (asker,))
    refuse_askers(council, (asker,))
    goals = asked_among(council)
    # A row of more arcs over askers alone goes round.
    found = [rounds for rounds in range(len(council) + 1) if come_to(goals, asker, rounds) == ()]
    return found[0] if found else None


def farthest(council, begun, weights, rounds):
    """The greatest distance of what an asker holds behind so many rounds by these WEIGHTS from its VOICE."""
    council, begun, weights = frozen((council, begun, weights))
    refuse_lost(council)
    held, voice = held_behind(council, begun, (weights,) * rounds), voice_of(council, weights)
    best = (0, 1)
    for asker in askers_in(council):
        top, bottom = added_up((1, -1), (held[asker], voice[asker]))
        if is_less(best, (abs(top), bottom)):
            best = (abs(top), bottom)
    return best
