"""Small COUNCILS of all kinds, WEIGHTS and prices for them, and a great one at the bounds."""

from itertools import combinations, islice, product

from tests import reckoning


def sets_of(numbers):
    """The ascending tuples, not (), of some of these numbers."""
    return [some for many in range(1, len(numbers) + 1) for some in combinations(numbers, many)]


def councils(many, step):
    """Of all COUNCILS of so many MEMBERS each so-manyth one; firm ones hold numbers below 0, alike ones, too."""
    options = [[(7, -3, 7, 0, 10 ** 30)[k]] + sets_of([n for n in range(many) if n != k]) for k in range(many)]
    return list(islice(product(*options), 0, None, step))


SMALL = councils(1, 1) + councils(2, 1) + councils(3, 1) + councils(4, 5) + councils(5, 4999)
SOUND = [council for council in SMALL if reckoning.lost(council) == ()]
UNSOUND = [council for council in SMALL if reckoning.lost(council) != ()]


def rows_for(council, seed, least, span):
    """A tuple like WEIGHTS, of numbers from least on, of which there are span unlike ones."""
    return tuple(tuple((seed * 31 + k * 7 + goal * 13 + seed * k * goal) % span + least
                       for goal in reckoning.asks(council, k)) for k in range(len(council)))


def weights_for(council, seed):
    return rows_for(council, seed, 1, 9)


def prices_for(council, seed):
    return rows_for(council, seed, 0, 5)


def block(first, firm):
    """Five askers from this number on, that all ask one another, and this firm one."""
    numbers = range(first, first + 5)
    return tuple(tuple(sorted([n for n in numbers if n != k] + [firm])) for k in numbers)


# Each block has 6 ** 4 FOLLOWINGS, by Cayley's formula: 1,679,616 in all.
BLOCK = (5, -10 ** 30, 3, 3, 0, 7) + block(6, 0)
BIG = BLOCK + block(11, 1)

# Ten askers, rings throughout, who ask six firm ones in turn.
WIDE = tuple([10 ** 30, -7, 0, 2, 2, -10 ** 30] + [
    tuple(sorted({(k + step) % 10 + 6 for step in (1, 2, 4, 7)} | {k % 6})) for k in range(10)])
