"""A plain reckoning, by going through everything, to hold the package against. It imports nothing of it."""

from fractions import Fraction
from itertools import permutations, product
from math import gcd


def is_firm(council, member):
    return isinstance(council[member], int)


def askers(council):
    return tuple(k for k in range(len(council)) if not is_firm(council, k))


def firm_ones(council):
    return tuple(k for k in range(len(council)) if is_firm(council, k))


def asks(council, member):
    return () if is_firm(council, member) else council[member]


def arcs(council):
    return [(a, b) for a in range(len(council)) for b in asks(council, a)]


def firm_roads(council, member):
    """Every ROAD from the MEMBER to a firm one, ascending."""
    found, begun = [], [(member,)]
    while begun:
        road = begun.pop()
        if is_firm(council, road[-1]):
            found.append(road)
        begun.extend(road + (goal,) for goal in asks(council, road[-1]) if goal not in road)
    return sorted(found)


def all_roads(council):
    """Every ROAD: every row of unlike MEMBERS, tried."""
    found = []
    for many in range(1, len(council) + 1):
        for row in permutations(range(len(council)), many):
            if all(b in asks(council, a) for a, b in zip(row, row[1:])):
                found.append(row)
    return sorted(found)


def roads(council, one, other):
    return [road for road in all_roads(council) if road[0] == one and road[-1] == other]


def reached(council, member):
    return tuple(sorted({road[-1] for road in all_roads(council) if road[0] == member}))


def lost(council):
    ends = {road[0] for road in all_roads(council) if is_firm(council, road[-1])}
    return tuple(k for k in range(len(council)) if k not in ends)


def all_rings(council):
    return [road for road in all_roads(council) if road[0] in asks(council, road[-1])]


def end_of(row, member):
    """Where one comes to from it; None in a ring."""
    seen = []
    while member not in seen:
        seen.append(member)
        if row[member] == member:
            return member
        member = row[member]
    return None


def followings(council):
    """All FOLLOWINGS, ascending: every choice of arcs, tried."""
    options = [(k,) if is_firm(council, k) else council[k] for k in range(len(council))]
    return [row for row in product(*options)
            if all(end_of(row, k) is not None for k in range(len(council)))]


def ends(row):
    return tuple(end_of(row, k) for k in range(len(row)))


def weight_product(council, rows, row):
    out = 1
    for k in askers(council):
        out *= dict(zip(council[k], rows[k]))[row[k]]
    return out


def price_sum(council, rows, row):
    return sum(dict(zip(council[k], rows[k]))[row[k]] for k in askers(council))


def total_weight(council, weights):
    return sum(weight_product(council, weights, row) for row in followings(council))


def weight_to(council, weights, member, firm):
    return sum(weight_product(council, weights, row) for row in followings(council)
               if end_of(row, member) == firm)


def voice(council, weights):
    """The VOICE as Python's Fractions: the equations of the means, solved."""
    many = len(council)
    rows = []
    for k in range(many):
        row = [Fraction(0)] * (many + 1)
        row[k] = Fraction(1)
        if is_firm(council, k):
            row[many] = Fraction(council[k])
        else:
            for goal, weight in zip(council[k], weights[k]):
                row[goal] -= Fraction(weight, sum(weights[k]))
        rows.append(row)
    for at in range(many):
        best = next(k for k in range(at, many) if rows[k][at] != 0)
        rows[at], rows[best] = rows[best], rows[at]
        rows[at] = [x / rows[at][at] for x in rows[at]]
        for k in range(many):
            if k != at and rows[k][at] != 0:
                much = rows[k][at]
                rows[k] = [x - much * y for x, y in zip(rows[k], rows[at])]
    return tuple(row[many] for row in rows)


def pair(fraction):
    return (fraction.numerator, fraction.denominator)


def told_voice(council, weights):
    return tuple(pair(part) for part in voice(council, weights))


def share(council, weights, member, firm):
    """As the document tells it: what member holds if firm holds 1 and the others 0."""
    one_hot = tuple(int(k == firm) if is_firm(council, k) else council[k] for k in range(len(council)))
    return voice(one_hot, weights)[member]


def is_number(x):
    return type(x) is int


def is_fraction(x):
    return type(x) is tuple and len(x) == 2 and all(map(is_number, x)) and x[1] > 0 and gcd(*x) == 1


def is_council(x):
    if type(x) is not tuple or not x:
        return False
    for k, part in enumerate(x):
        if is_number(part):
            continue
        if type(part) is not tuple or not part or not all(map(is_number, part)):
            return False
        if list(part) != sorted(set(part)) or k in part or not set(part) <= set(range(len(x))):
            return False
    return True


def is_weights(council, x):
    if type(x) is not tuple or len(x) != len(council):
        return False
    return all(type(row) is tuple and len(row) == len(asks(council, k))
               and all(is_number(n) and n > 0 for n in row) for k, row in enumerate(x))


def shortest_changes(council, one, other):
    """All tuples of FOLLOWINGS from one to other as short as can be: every order of the turns, tried."""
    good = set(followings(council))
    found = []
    for order in permutations([k for k in range(len(one)) if one[k] != other[k]]):
        steps = [one]
        for k in order:
            steps.append(steps[-1][:k] + (other[k],) + steps[-1][k + 1:])
        if set(steps) <= good:
            found.append(tuple(steps))
    return found


def least_price(council, prices):
    return min(price_sum(council, prices, row) for row in followings(council))


def is_lots(council, x):
    """Whether the kinds are right: an ascending tuple of pairs of unlike sets of askers and numbers from 1."""
    if type(x) is not tuple:
        return False
    for part in x:
        if type(part) is not tuple or len(part) != 2 or type(part[0]) is not tuple:
            return False
        lot, number = part
        if not all(map(is_number, lot)) or list(lot) != sorted(set(lot)) or not lot:
            return False
        if not set(lot) <= set(askers(council)) or not is_number(number) or number < 1:
            return False
    return list(x) == sorted(x) and len({lot for lot, _ in x}) == len(x)


def is_laying(council, prices, x):
    if not is_lots(council, x):
        return False
    for asker, goal in arcs(council):
        price = dict(zip(council[asker], prices[asker]))[goal]
        if sum(number for lot, number in x if asker in lot and goal not in lot) > price:
            return False
    return sum(number for _, number in x) == least_price(council, prices)


def sums(council, total):
    """The values of the SUM by the ENDS of all FOLLOWINGS."""
    return [sum(n * council[end] for n, end in zip(total, ends(row))) for row in followings(council)]


def wish_by(wish, told):
    return sum(number for member, firm, number in wish if told[member] == firm)


def wishes(council, wish):
    """The values of the WISH by the ENDS of all FOLLOWINGS."""
    return [wish_by(wish, ends(row)) for row in followings(council)]


def value(council, weights, total):
    """The value of the SUM by WEIGHTS, as Python's Fraction."""
    return sum((part * n for part, n in zip(voice(council, weights), total)), Fraction(0))


def comes(values, fraction):
    """Whether the fraction is strictly between the least and the greatest of the values, or just this one."""
    return min(values) < fraction < max(values) or min(values) == fraction == max(values)


def near(values):
    """Fractions at, beside and between the least and the greatest of the values."""
    low, high = min(values), max(values)
    small = Fraction(1, 10 ** 30)
    told = [low, high, Fraction(low + high) / 2, (2 * Fraction(low) + high) / 3, Fraction(0)]
    return sorted({Fraction(part) + more for part in told for more in (-1, -small, 0, small, 1)})


def misfits(council, told):
    """The misfits of a voice of Python's Fractions."""
    found = []
    for k in askers(council):
        heard = [told[goal] for goal in council[k]]
        if not min(heard) < told[k] < max(heard) and set(heard) != {told[k]}:
            found.append(k)
    return tuple(found)


def ranks(order):
    return {member: place for place, some in enumerate(order) for member in some}


def order_by(told):
    """The sets of places with one and the same part, the lesser ones ahead."""
    return tuple(tuple(k for k in range(len(told)) if told[k] == part) for part in sorted(set(told)))


def is_order(council, x):
    if type(x) is not tuple or not all(type(part) is tuple and part and all(map(is_number, part)) for part in x):
        return False
    if any(list(part) != sorted(set(part)) for part in x):
        return False
    if sorted(k for part in x for k in part) != list(range(len(council))):
        return False
    place = ranks(x)
    return all((place[a] < place[b]) == (council[a] < council[b])
               for a in firm_ones(council) for b in firm_ones(council))


def is_let(council, order):
    place = ranks(order)
    for k in askers(council):
        heard = [place[goal] for goal in council[k]]
        both = any(at < place[k] for at in heard) and any(at > place[k] for at in heard)
        if not both and not all(at == place[k] for at in heard):
            return False
    return True


def all_orders(council):
    """All let ORDERS: every way to give the askers places beside those of the firm ones, tried."""
    numbers = sorted({council[k] for k in firm_ones(council)})
    many = len(askers(council))
    # Between two firm ones there is room for as many places as there are askers.
    fixed = {number: place * (many + 1) for place, number in enumerate(numbers)}
    options = [(fixed[part],) if isinstance(part, int) else range(-many, len(numbers) * (many + 1)) for part in council]
    found = {order_by(row) for row in product(*options)}
    return sorted(order for order in found if is_let(council, order))


def pairs_of(numbers):
    return [(a, b) for a in numbers for b in numbers if a != b]


def held_by(numbers, told):
    """What each MEMBER holds by these ENDS, told numbers of the firm ones."""
    held = dict(numbers)
    return [held[end] for end in told]


def is_in_order(council, order, x):
    if type(x) is not tuple or not all(type(part) is tuple and len(part) == 2 and all(map(is_number, part)) for part in x):
        return False
    if tuple(part[0] for part in x) != firm_ones(council):
        return False
    return all(dict(x)[a] <= dict(x)[b] for a, b in order)


def is_pair_against(council, order, total, x, least):
    """Whether x is a FOLLOWING and numbers from least on that keep the order, by which the SUM is below 0."""
    if type(x) is not tuple or len(x) != 2 or type(x[0]) is not tuple or not all(map(is_number, x[0])):
        return False
    if x[0] not in followings(council) or not is_in_order(council, order, x[1]):
        return False
    if least is not None and any(number < least for _, number in x[1]):
        return False
    return sum(n * part for n, part in zip(total, held_by(x[1], ends(x[0])))) < 0


def is_bounds(council, x):
    if type(x) is not tuple or len(x) != len(council):
        return False
    for k, row in enumerate(x):
        if type(row) is not tuple or len(row) != len(asks(council, k)):
            return False
        for part in row:
            if type(part) is not tuple or len(part) != 2 or not all(map(is_number, part)) or not 1 <= part[0] <= part[1]:
                return False
    return True


def corners(bounds):
    """All CORNERS, ascending."""
    rows = [sorted(set(product(*row))) for row in bounds]
    return sorted(set(product(*rows)))


def fits(bounds, weights):
    """As the document tells it."""
    return all(own * other_pair[0] <= other * own_pair[1]
               for pairs, row in zip(bounds, weights)
               for own, own_pair in zip(row, pairs) for other, other_pair in zip(row, pairs))


def lots_of(council, heeds, asker):
    found = []
    for mask in range(1, 2 ** len(council[asker])):
        lot = tuple(goal for k, goal in enumerate(council[asker]) if mask >> k & 1)
        if all(one in lot for who, one, other in heeds if who == asker and other in lot):
            found.append(lot)
    return sorted(found)


def narrowed(council, lots):
    return tuple(part if isinstance(part, int) else lot for part, lot in zip(council, lots))


def all_lots(council, heeds):
    options = [[()] if isinstance(part, int) else lots_of(council, heeds, k) for k, part in enumerate(council)]
    return [lots for lots in product(*options)
            if all(firm_roads(narrowed(council, lots), k) for k in range(len(council)))]


def voice_by_lots(council, lots):
    narrow = narrowed(council, lots)
    return voice(narrow, tuple((1,) * len(asks(narrow, k)) for k in range(len(council))))


def sum_by_lots(council, lots, total):
    return sum((n * part for n, part in zip(total, voice_by_lots(council, lots))), Fraction(0))


def keeps_heeds(council, heeds, weights):
    told = [dict(zip(asks(council, k), row)) for k, row in enumerate(weights)]
    return all(told[asker][one] >= told[asker][other] for asker, one, other in heeds)
