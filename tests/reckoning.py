"""A plain reckoning, by going through everything, to hold the package against. It imports nothing of it."""

from fractions import Fraction
from itertools import permutations, product
from math import gcd


def is_firm(council, member):
    return isinstance(council[member], int)


def askers(council):
    return tuple(k for k in range(len(council)) if not is_firm(council, k))


def firm_ones(council):
    return tuple(k for k in range(len(council)) if is_firm(council, k))


def asks(council, member):
    return () if is_firm(council, member) else council[member]


def arcs(council):
    return [(a, b) for a in range(len(council)) for b in asks(council, a)]


def firm_roads(council, member):
    """Every ROAD from the MEMBER to a firm one, ascending."""
    found, begun = [], [(member,)]
    while begun:
        road = begun.pop()
        if is_firm(council, road[-1]):
            found.append(road)
        begun.extend(road + (goal,) for goal in asks(council, road[-1]) if goal not in road)
    return sorted(found)


def all_roads(council):
    """Every ROAD: every row of unlike MEMBERS, tried."""
    found = []
    for many in range(1, len(council) + 1):
        for row in permutations(range(len(council)), many):
            if all(b in asks(council, a) for a, b in zip(row, row[1:])):
                found.append(row)
    return sorted(found)


def roads(council, one, other):
    return [road for road in all_roads(council) if road[0] == one and road[-1] == other]


def reached(council, member):
    return tuple(sorted({road[-1] for road in all_roads(council) if road[0] == member}))


def lost(council):
    ends = {road[0] for road in all_roads(council) if is_firm(council, road[-1])}
    return tuple(k for k in range(len(council)) if k not in ends)


def all_rings(council):
    return [road for road in all_roads(council) if road[0] in asks(council, road[-1])]


def end_of(row, member):
    """Where one comes to from it; None in a ring."""
    seen = []
    while member not in seen:
        seen.append(member)
        if row[member] == member:
            return member
        member = row[member]
    return None


def followings(council):
    """All FOLLOWINGS, ascending: every choice of arcs, tried."""
    options = [(k,) if is_firm(council, k) else council[k] for k in range(len(council))]
    return [row for row in product(*options)
            if all(end_of(row, k) is not None for k in range(len(council)))]


def ends(row):
    return tuple(end_of(row, k) for k in range(len(row)))


def weight_product(council, rows, row):
    out = 1
    for k in askers(council):
        out *= dict(zip(council[k], rows[k]))[row[k]]
    return out


def price_sum(council, rows, row):
    return sum(dict(zip(council[k], rows[k]))[row[k]] for k in askers(council))


def total_weight(council, weights):
    return sum(weight_product(council, weights, row) for row in followings(council))


def weight_to(council, weights, member, firm):
    return sum(weight_product(council, weights, row) for row in followings(council)
               if end_of(row, member) == firm)


def voice(council, weights):
    """The VOICE as Python's Fractions: the equations of the means, solved."""
    many = len(council)
    rows = []
    for k in range(many):
        row = [Fraction(0)] * (many + 1)
        row[k] = Fraction(1)
        if is_firm(council, k):
            row[many] = Fraction(council[k])
        else:
            for goal, weight in zip(council[k], weights[k]):
                row[goal] -= Fraction(weight, sum(weights[k]))
        rows.append(row)
    for at in range(many):
        best = next(k for k in range(at, many) if rows[k][at] != 0)
        rows[at], rows[best] = rows[best], rows[at]
        rows[at] = [x / rows[at][at] for x in rows[at]]
        for k in range(many):
            if k != at and rows[k][at] != 0:
                much = rows[k][at]
                rows[k] = [x - much * y for x, y in zip(rows[k], rows[at])]
    return tuple(row[many] for row in rows)


def pair(fraction):
    return (fraction.numerator, fraction.denominator)


def told_voice(council, weights):
    return tuple(pair(part) for part in voice(council, weights))


def share(council, weights, member, firm):
    """As the document tells it: what member holds if firm holds 1 and the others 0."""
    one_hot = tuple(int(k == firm) if is_firm(council, k) else council[k] for k in range(len(council)))
    return voice(one_hot, weights)[member]


def is_number(x):
    return type(x) is int


def is_fraction(x):
    return type(x) is tuple and len(x) == 2 and all(map(is_number, x)) and x[1] > 0 and gcd(*x) == 1


def is_council(x):
    if type(x) is not tuple or not x:
        return False
    for k, part in enumerate(x):
        if is_number(part):
            continue
        if type(part) is not tuple or not part or not all(map(is_number, part)):
            return False
        if list(part) != sorted(set(part)) or k in part or not set(part) <= set(range(len(x))):
            return False
    return True


def is_weights(council, x):
    if type(x) is not tuple or len(x) != len(council):
        return False
    return all(type(row) is tuple and len(row) == len(asks(council, k))
               and all(is_number(n) and n > 0 for n in row) for k, row in enumerate(x))


def shortest_changes(council, one, other):
    """All tuples of FOLLOWINGS from one to other as short as can be: every order of the turns, tried."""
    good = set(followings(council))
    found = []
    for order in permutations([k for k in range(len(one)) if one[k] != other[k]]):
        steps = [one]
        for k in order:
            steps.append(steps[-1][:k] + (other[k],) + steps[-1][k + 1:])
        if set(steps) <= good:
            found.append(tuple(steps))
    return found


def least_price(council, prices):
    return min(price_sum(council, prices, row) for row in followings(council))


def is_lots(council, x):
    """Whether the kinds are right: an ascending tuple of pairs of unlike sets of askers and numbers from 1."""
    if type(x) is not tuple:
        return False
    for part in x:
        if type(part) is not tuple or len(part) != 2 or type(part[0]) is not tuple:
            return False
        lot, number = part
        if not all(map(is_number, lot)) or list(lot) != sorted(set(lot)) or not lot:
            return False
        if not set(lot) <= set(askers(council)) or not is_number(number) or number < 1:
            return False
    return list(x) == sorted(x) and len({lot for lot, _ in x}) == len(x)


def is_laying(council, prices, x):
    if not is_lots(council, x):
        return False
    for asker, goal in arcs(council):
        price = dict(zip(council[asker], prices[asker]))[goal]
        if sum(number for lot, number in x if asker in lot and goal not in lot) > price:
            return False
    return sum(number for _, number in x) == least_price(council, prices)


def sums(council, total):
    """The values of the SUM by the ENDS of all FOLLOWINGS."""
    return [sum(n * council[end] for n, end in zip(total, ends(row))) for row in followings(council)]


def wish_by(wish, told):
    return sum(number for member, firm, number in wish if told[member] == firm)


def wishes(council, wish):
    """The values of the WISH by the ENDS of all FOLLOWINGS."""
    return [wish_by(wish, ends(row)) for row in followings(council)]


def value(council, weights, total):
    """The value of the SUM by WEIGHTS, as Python's Fraction."""
    return sum((part * n for part, n in zip(voice(council, weights), total)), Fraction(0))


def comes(values, fraction):
    """Whether the fraction is strictly between the least and the greatest of the values, or just this one."""
    return min(values) < fraction < max(values) or min(values) == fraction == max(values)


def near(values):
    """Fractions at, beside and between the least and the greatest of the values."""
    low, high = min(values), max(values)
    small = Fraction(1, 10 ** 30)
    told = [low, high, Fraction(low + high) / 2, (2 * Fraction(low) + high) / 3, Fraction(0)]
    return sorted({Fraction(part) + more for part in told for more in (-1, -small, 0, small, 1)})
