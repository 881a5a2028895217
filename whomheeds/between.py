"""Between two WEIGHTS: by which the value of a SUM is just a number told (section 9)."""

from whomheeds.basics import askers_in, frozen, is_between, lowest, put_at, refuse
from whomheeds.sums import followed_loudly, sums_by_all
from whomheeds.voices import are_weights, loud_enough, plain_row, sum_parts, value_of


def comes(council, total, fraction):
    """Whether the SUM has this value by some WEIGHTS."""
    pairs = sums_by_all(council, total)
    return is_between(frozen(fraction), min(pairs)[0], max(pairs)[0])


def weights_for(council, total, fraction):
    """WEIGHTS by which the SUM has this value; None if there are none."""
    council, total, fraction = frozen((council, total, fraction))
    pairs = sums_by_all(council, total)
    (low, low_row), (high, high_row) = min(pairs), max(pairs)
    if not is_between(fraction, low, high):
        return None
    top, bottom = fraction
    below = followed_loudly(council, low_row, loud_enough(council, high * bottom - top))
    above = followed_loudly(council, high_row, loud_enough(council, top - low * bottom))
    return weights_on_the_way(council, below, above, total, fraction)


def is_weights_for(council, total, fraction, thing):
    """Whether thing is such WEIGHTS, of however great numbers."""
    council, total, fraction = frozen((council, total, fraction))
    refuse(council)
    return are_weights(council, thing) and value_of(council, thing, total) == fraction


def set_row(council, weights, asker, row):
    """The WEIGHTS with this row for this asker."""
    council, weights, row = frozen((council, weights, row))
    refuse(council, (asker,), (asker,))
    return put_at(weights, asker, row)


def mixed(council, weights, asker, row, part):
    """The WEIGHTS at part, from weights to row."""
    council, weights, row, part = frozen((council, weights, row, part))
    refuse(council, (asker,), (asker,))
    return weights_at(weights, asker, row, part)


def weights_at(weights, asker, row, part):
    """As mixed, nothing refused."""
    top, bottom = part
    between = [own * (bottom - top) + other * top for own, other in zip(weights[asker], row)]
    return put_at(weights, asker, plain_row(tuple(between)))


def beyond(council, weights, total, fraction):
    """By how much the value of the SUM goes beyond the fraction, times the total weight and the bottom.

    So it is a sum, over all FOLLOWINGS, of numbers times the weights of the arcs: as an asker's row goes to another
    one evenly, it goes evenly, too.
    """
    top, bottom = sum_parts(council, weights, total)
    return top * fraction[1] - bottom * fraction[0]


def way_of(council, weights, asker, row, total):
    """How the value of the SUM goes from part 0 to part 1: "up", "down" or "same"."""
    council, weights, row, total = frozen((council, weights, row, total))
    refuse(council, (asker,), (asker,))
    gone = beyond(council, put_at(weights, asker, row), total, value_of(council, weights, total))
    if gone == 0:
        return "same"
    return "up" if gone > 0 else "down"


def crossing(council, weights, asker, row, total, fraction):
    """The least part at which the value of the SUM is fraction; None if there is none."""
    council, weights, row, total, fraction = frozen((council, weights, row, total, fraction))
    refuse(council, (asker,), (asker,))
    return crossed_at(council, weights, asker, row, total, fraction)


def crossed_at(council, weights, asker, row, total, fraction):
    """As crossing, nothing refused."""
    begun = beyond(council, weights, total, fraction)
    ended = beyond(council, put_at(weights, asker, row), total, fraction)
    if begun == 0:
        return (0, 1)
    if begun * ended > 0:
        return None
    return lowest(abs(begun), abs(begun - ended))


def steps_between(council, weights, later):
    """The list of WEIGHTS from weights to later, one asker's row of later in the place of its own each time."""
    council, weights, later = frozen((council, weights, later))
    refuse(council)
    return steps_to_later(council, weights, later)


def steps_to_later(council, weights, later):
    """As steps_between, nothing refused."""
    steps = [weights]
    for asker in askers_in(council):
        steps.append(put_at(steps[-1], asker, later[asker]))
    return steps


def step_at(council, weights, later, total, fraction):
    """The first asker at whose step the value comes to fraction, or to its other side; None if there is none."""
    council, weights, later, total, fraction = frozen((council, weights, later, total, fraction))
    refuse(council)
    asker, _ = step_over(council, weights, later, total, fraction)
    return asker


def step_over(council, weights, later, total, fraction):
    """A pair: the asker that step_at tells, and the WEIGHTS ahead of its step; None and weights if there is none."""
    begun = beyond(council, weights, total, fraction)
    if begun == 0:
        return (None, weights)
    steps = steps_to_later(council, weights, later)
    for asker, ahead, behind in zip(askers_in(council), steps, steps[1:]):
        if begun * beyond(council, behind, total, fraction) <= 0:
            return (asker, ahead)
    return (None, weights)


def between_weights(council, weights, later, total, fraction):
    """The WEIGHTS on the way from weights to later by which the value first is fraction; None if there are none."""
    council, weights, later, total, fraction = frozen((council, weights, later, total, fraction))
    refuse(council)
    return weights_on_the_way(council, weights, later, total, fraction)


def weights_on_the_way(council, weights, later, total, fraction):
    """As between_weights, nothing refused."""
    asker, ahead = step_over(council, weights, later, total, fraction)
    if asker is None:
        return weights if beyond(council, weights, total, fraction) == 0 else None
    part = crossed_at(council, ahead, asker, later[asker], total, fraction)
    return weights_at(ahead, asker, later[asker], part)
