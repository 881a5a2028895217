"""CLAIMS of COUNCILS, and a plain reckoning of what stands and of what is a PAPER."""

from fractions import Fraction
from itertools import product

from tests import reckoning, samples, test_buyers, test_lots, test_rounds, test_unknown


def bounds_for(council, seed):
    """BOUNDS with at most five pairs of unlike numbers."""
    roll, wide = samples.rolls(seed), [5]
    rows = []
    for k in range(len(council)):
        row = []
        for _ in reckoning.asks(council, k):
            low = 1 + next(roll) % 3
            more = next(roll) % 3 if wide[0] > 0 else 0
            wide[0] -= more > 0
            row.append((low, low + more))
        rows.append(tuple(row))
    return tuple(rows)


def around(value):
    """Numbers at and beside the value, a whole number or one of Python's Fractions."""
    floor = value.numerator // value.denominator
    return (floor - 1, floor, floor + 1)


def sums_for(council, seed):
    """SUMS: any, one MEMBER less another one, a lone one."""
    one, other = seed % len(council), (seed * 7 + 1) % len(council)
    gap = tuple(int(k == one) - int(k == other) for k in range(len(council)))
    return [samples.total_for(council, seed), gap, tuple(int(k == len(council) - 1) for k in range(len(council)))]


def claims_for(council, seed):
    """CLAIMS of all kinds, those with numbers at and beside the greatest by which they stand."""
    found = []
    firm, askers, many = reckoning.firm_ones(council), reckoning.askers(council), len(council)
    for total in sums_for(council, seed):
        for number in around(min(reckoning.sums(council, total))):
            found += [("least", total, number), ("above", total, number)]
        bounds = bounds_for(council, seed)
        for number in around(min(reckoning.value(council, corner, total) for corner in reckoning.corners(bounds))):
            found.append(("bounds", bounds, total, number))
        for heeds in test_lots.heeds_for(council, seed)[:2]:
            low = min(reckoning.sum_by_lots(council, lots, total) for lots in reckoning.all_lots(council, heeds))
            found += [("heeds", heeds, total, number) for number in around(low)]
        found += [("order", order, total) for order in test_unknown.orders_for(council, seed)[:4]]
        begun = test_rounds.begun_for(council, seed)
        for rounds in (0, 1, 2):
            if ways(council) ** rounds <= 300:
                low = talk_range(council, begun, rounds, total)[0]
                found += [("talk", begun, rounds, total, number) for number in around(low)]
    for more in (0, 1):
        wish = samples.wish_for(council, seed + more)
        found += [("wish", wish, number) for number in around(min(reckoning.wishes(council, wish)))]
        voice = reckoning.told_voice(council, samples.weights_for(council, seed + more))
        found.append(("voice", voice))
        if askers:
            wrong = list(voice)
            wrong[askers[0]] = (voice[askers[0]][0] + voice[askers[0]][1], voice[askers[0]][1])
            found.append(("voice", tuple(wrong)))
    found += [("like", one, other) for one, other in product(range(many), repeat=2)][seed % 3::3]
    found += [("pull", asker, other, member) for asker, other in reckoning.arcs(council) for member in range(many)][seed % 4::4]
    for number in around(council[firm[seed % len(firm)]]):
        for bought in ((), askers[:1], askers[1:]):
            found.append(("bought", tuple(range(many))[seed % 2::2], number, bought))
    return found


def ways(council):
    out = 1
    for k in reckoning.askers(council):
        out *= len(council[k])
    return out


def talk_range(council, begun, rounds, total):
    """The least and the greatest value by all rows of arcs."""
    choices = list(product(*[reckoning.asks(council, k) or (k,) for k in range(len(council))]))
    values = set()
    for talk in product(choices, repeat=rounds):
        held = begun
        for row in talk:
            held = tuple(held[goal] for goal in row)
        values.add(sum(n * part for n, part in zip(total, held)))
    return (min(values), max(values))


def lone(council, member):
    return tuple(int(k == member) for k in range(len(council)))


def less(council, one, other):
    return tuple(a - b for a, b in zip(lone(council, one), lone(council, other)))


def does_stand(council, claim):
    """Whether the CLAIM stands, by going through everything."""
    kind, *told = claim
    if kind == "least":
        return min(reckoning.sums(council, told[0])) >= told[1]
    if kind == "above":
        values = reckoning.sums(council, told[0])
        return min(values) > told[1] or min(values) == told[1] < max(values)
    if kind == "wish":
        return min(reckoning.wishes(council, told[0])) >= told[1]
    if kind == "like":
        return set(reckoning.sums(council, less(council, *told))) == {0}
    if kind == "voice":
        return reckoning.misfits(council, [Fraction(*part) for part in told[0]]) != ()
    if kind == "bounds":
        return all(reckoning.value(council, corner, told[1]) >= told[2] for corner in reckoning.corners(told[0]))
    if kind == "heeds":
        return all(reckoning.sum_by_lots(council, lots, told[1]) >= told[2]
                   for lots in reckoning.all_lots(council, told[0]))
    if kind == "order":
        return test_unknown.least(council, told[0], told[1], (-1, 0, 1)) >= 0
    if kind == "pull":
        asker, other, member = told
        return asker not in reached(council, member) or min(reckoning.sums(council, less(council, other, asker))) >= 0
    if kind == "bought":
        return test_buyers.is_sure(test_buyers.low_roads(council, told[0], told[1]), told[2])
    return talk_range(council, *told[:3])[0] >= told[3]


def reached(council, member):
    seen, ahead = {member}, [member]
    while ahead:
        more = set(reckoning.asks(council, ahead.pop())) - seen
        seen |= more
        ahead += more
    return seen


def are_kinds(x, kind):
    return type(x) is tuple and all(type(part) is kind for part in x)


def is_paper(council, claim, x):
    """Whether x is a PAPER against the CLAIM, by the words of the table."""
    kind, *told = claim
    if kind in ("least", "above", "wish", "like", "voice", "bounds", "heeds"):
        return reckoning.is_weights(council, x) and is_weights_paper(council, kind, told, x)
    if kind == "order":
        return reckoning.is_pair_against(council, told[0], told[1], x, None)
    if kind == "pull":
        return is_pull_paper(council, told, x)
    if kind == "bought":
        return are_kinds(x, int) and x in [road for road in test_buyers.low_roads(council, told[0], told[1])
                                           if not set(road) & set(told[2])]
    begun, rounds, total, number = told
    if type(x) is not tuple or len(x) != rounds or not all(reckoning.is_weights(council, part) for part in x):
        return False
    return sum(n * part for n, part in zip(total, test_rounds.after(council, begun, x))) < number


def is_weights_paper(council, kind, told, x):
    voice = reckoning.voice(council, x)
    if kind == "like":
        return voice[told[0]] != voice[told[1]]
    if kind == "voice":
        return tuple(map(reckoning.pair, voice)) == told[0]
    if kind == "wish":
        return sum(number * reckoning.share(council, x, member, firm) for member, firm, number in told[0]) < told[1]
    value = sum(n * part for n, part in zip(told[-2], voice))
    if kind == "above":
        return value <= told[-1]
    if kind == "bounds" and not reckoning.fits(told[0], x):
        return False
    if kind == "heeds" and not reckoning.keeps_heeds(council, told[0], x):
        return False
    return value < told[-1]


def is_pull_paper(council, told, x):
    asker, other, member = told
    if type(x) is not tuple or len(x) != 2 or not all(reckoning.is_weights(council, part) for part in x):
        return False
    one, more = [dict(((k, goal), n) for k, row in enumerate(part) for goal, n in zip(reckoning.asks(council, k), row))
                 for part in x]
    unlike = [arc for arc in one if one[arc] != more[arc]]
    if unlike != [(asker, other)] or more[(asker, other)] < one[(asker, other)]:
        return False
    return reckoning.voice(council, x[1])[member] < reckoning.voice(council, x[0])[member]
