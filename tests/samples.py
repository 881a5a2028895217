"""Small COUNCILS of all kinds, WEIGHTS and prices for them, and a great one at the bounds."""

from itertools import combinations, islice, product

from tests import reckoning


def sets_of(numbers):
    """The ascending tuples, not (), of some of these numbers."""
    return [some for many in range(1, len(numbers) + 1) for some in combinations(numbers, many)]


def councils(many, step):
    """Of all COUNCILS of so many MEMBERS each so-manyth one; firm ones hold numbers below 0, alike ones, too."""
    options = [[(7, -3, 7, 0, 10 ** 30)[k]] + sets_of([n for n in range(many) if n != k]) for k in range(many)]
    return list(islice(product(*options), 0, None, step))


SMALL = councils(1, 1) + councils(2, 1) + councils(3, 1) + councils(4, 5) + councils(5, 4999)
SOUND = [council for council in SMALL if reckoning.lost(council) == ()]
UNSOUND = [council for council in SMALL if reckoning.lost(council) != ()]


def rows_for(council, seed, least, span):
    """A tuple like WEIGHTS, of numbers from least on, of which there are span unlike ones."""
    return tuple(tuple((seed * 31 + k * 7 + goal * 13 + seed * k * goal) % span + least
                       for goal in reckoning.asks(council, k)) for k in range(len(council)))


def weights_for(council, seed):
    return rows_for(council, seed, 1, 9)


def prices_for(council, seed):
    return rows_for(council, seed, 0, 5)


def block(first, firm):
    """Five askers from this number on, that all ask one another, and this firm one."""
    numbers = range(first, first + 5)
    return tuple(tuple(sorted([n for n in numbers if n != k] + [firm])) for k in numbers)


# Each block has 6 ** 4 FOLLOWINGS, by Cayley's formula: 1,679,616 in all.
BLOCK = (5, -10 ** 30, 3, 3, 0, 7) + block(6, 0)
BIG = BLOCK + block(11, 1)

# Ten askers, rings throughout, who ask six firm ones in turn.
WIDE = tuple([10 ** 30, -7, 0, 2, 2, -10 ** 30] + [
    tuple(sorted({(k + step) % 10 + 6 for step in (1, 2, 4, 7)} | {k % 6})) for k in range(10)])


def rolls(seed):
    """Numbers from 0 on that look like any, the same ones for the same seed."""
    state = seed * 2654435761 + 12345
    while True:
        state = (state * 6364136223846793005 + 1442695040888963407) % 2 ** 64
        yield state >> 33


def made(seed, firm, askers):
    """A COUNCIL of so many firm ones and askers, in whatever order, each asking at most three; sound or not."""
    roll = rolls(seed)
    many = firm + askers
    kinds = [True] * firm + [False] * askers
    for k in range(many - 1, 0, -1):
        other = next(roll) % (k + 1)
        kinds[k], kinds[other] = kinds[other], kinds[k]
    found = []
    for k, is_firm in enumerate(kinds):
        if is_firm:
            found.append((0, 6, -4, 6, 0, 1, 10 ** 30, -10 ** 30)[next(roll) % (8 if seed % 4 == 0 else 6)])
        else:
            found.append(tuple(sorted({(k + 1 + next(roll) % (many - 1)) % many for _ in range(1 + next(roll) % 3)})))
    return tuple(found)


KINDS = ((2, 3), (3, 3), (2, 4), (3, 4), (4, 4), (1, 4), (3, 5), (6, 3))
MADE = [council for council in (made(seed, *KINDS[seed % len(KINDS)]) for seed in range(160))
        if all(reckoning.firm_roads(council, k) for k in range(len(council)))][:64]


def total_for(council, seed):
    """A SUM; now and then with great numbers, or with few that are not 0."""
    roll = rolls(seed)
    much = 10 ** 30 if seed % 5 == 4 else 1
    return tuple((next(roll) % 7 - 3) * much * (seed % 3 != 2 or next(roll) % 3 == 0) for _ in council)


def wish_for(council, seed):
    """A WISH: in whatever order, with alike triples."""
    roll = rolls(seed)
    firm = reckoning.firm_ones(council)
    found = [(next(roll) % len(council), firm[next(roll) % len(firm)], next(roll) % 9 - 4)
             for _ in range(next(roll) % 5)]
    return tuple(found + found[:1] * (seed % 2))


# Ten askers in a row, each asking both beside it: eleven FOLLOWINGS.
LONG = (0, (0, 2), (1, 3), (2, 4), (3, 5), (4, 6), (5, 7), (6, 8), (7, 9), (8, 10), (9, 11), 11)

# At the bounds, with 1,652 FOLLOWINGS: 16 MEMBERS, ten askers, one asking five.
MANY = (10 ** 30, -10 ** 30, 0, 3, 3, -1, (0, 1, 2, 3, 7), (2, 4, 6, 8), (5, 7, 9), (0, 6, 10), (4, 5, 9),
        (10,), (11,), (6, 12), (13,), (0, 14))
