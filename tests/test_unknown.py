"""Promise 12: numbers that are not known, held against a plain reckoning over all FOLLOWINGS and small numbers."""

import unittest
from fractions import Fraction
from itertools import combinations, product

from tests import reckoning, samples
from tests.samples import BIG, MADE, MANY, SOUND, WIDE
from whomheeds import ranges, unknown, voices

SOME = list(enumerate(SOUND[::11] + MADE[::2] + [(7,), (7, 7), (5, (0, 2), (1,)), (3, 3, (0, 1, 3), (1, 2)),
                                                 (0, 6, (0, 3), (1, 2)), (1, 2, 3, (0, 1, 2), (0, 1, 3), (1, 2, 4))]))


def orders_for(council, seed):
    """(), a few pairs of firm ones, a chain, told both ways."""
    firm = reckoning.firm_ones(council)
    pairs, roll = reckoning.pairs_of(firm), samples.rolls(seed)
    found = {(), tuple(sorted(zip(firm, firm[1:]))), tuple(sorted([pair[::-1] for pair in zip(firm, firm[1:])]))}
    for _ in range(2):
        found.add(tuple(sorted({pairs[next(roll) % len(pairs)] for _ in range(1 + next(roll) % 4)} if pairs else ())))
    found.add(tuple(sorted(pairs[:1] + [pair[::-1] for pair in pairs[:1]])))
    return sorted(found)


def totals_for(council, seed):
    """SUMS, some of whose numbers add up to 0, some of which are one MEMBER's less another one's."""
    total = samples.total_for(council, seed)
    less = total[:-1] + (total[-1] - sum(total),)
    one, other = seed % len(council), (seed * 7 + 1) % len(council)
    gap = tuple((k == one) - (k == other) for k in range(len(council)))
    return [total, less, tuple(map(int, gap)), tuple(int(k == one) for k in range(len(council))), (0,) * len(council)]


def cases():
    for seed, council in SOME:
        for order in orders_for(council, seed):
            for total in totals_for(council, seed):
                yield council, order, total


def rows_in_order(council, order, told):
    """All numbers out of told that keep the order."""
    firm = reckoning.firm_ones(council)
    rows = [dict(zip(firm, row)) for row in product(told, repeat=len(firm))]
    return [row for row in rows if all(row[a] <= row[b] for a, b in order)]


def least(council, order, total, told):
    """The least value by all FOLLOWINGS and all numbers out of told that keep the order."""
    rows = rows_in_order(council, order, told)
    return min(sum(n * held[end] for n, end in zip(total, ends)) for ends in all_ends(council) for held in rows)


ENDS = {}


def all_ends(council):
    if council not in ENDS:
        ENDS[council] = sorted({reckoning.ends(row) for row in reckoning.followings(council)})
    return ENDS[council]


class Ordered(unittest.TestCase):

    def test_upward_sets(self):
        for seed, council in SOME:
            firm = reckoning.firm_ones(council)
            every = [some for many in range(len(firm) + 1) for some in combinations(firm, many)]
            for order in orders_for(council, seed):
                right = [some for some in every if all(b in some for a, b in order if a in some)]
                self.assertEqual(unknown.upward_sets(council, order), sorted(right))

    def test_holds(self):
        """If the SUM is ever below 0, it is so by numbers from -1 to 1 (from 0 to 1)."""
        seen = []
        for council, order, total in cases():
            right = least(council, order, total, (-1, 0, 1)) >= 0
            self.assertIs(unknown.holds_in_order(council, order, total), right)
            from_zero = least(council, order, total, (0, 1)) >= 0
            self.assertIs(unknown.holds_from_zero(council, order, total), from_zero)
            turned = tuple(-n for n in total)
            nothing = right and least(council, order, turned, (-1, 0, 1)) >= 0
            self.assertIs(unknown.is_nothing_in_order(council, order, total), nothing)
            seen.append((right, from_zero, nothing))
        for answers in zip(*seen):
            self.assertGreater(answers.count(True), 30)
            self.assertGreater(answers.count(False), 30)

    def test_against(self):
        for council, order, total in cases():
            for against, is_against, holds, from_zero in (
                    (unknown.against_in_order, unknown.is_against_in_order, unknown.holds_in_order, None),
                    (unknown.against_from_zero, unknown.is_against_from_zero, unknown.holds_from_zero, 0)):
                made = against(council, order, total)
                self.assertEqual(made is None, holds(council, order, total))
                if made is not None:
                    self.assertTrue(reckoning.is_pair_against(council, order, total, made, from_zero))
                    self.assertIs(is_against(council, order, total, made), True)

    def test_idle_pairs(self):
        seen = 0
        for council, order, total in cases():
            right = []
            if least(council, order, total, (-1, 0, 1)) >= 0:
                right = [pair for pair in order
                         if least(council, tuple(p for p in order if p != pair), total, (-1, 0, 1)) >= 0]
            seen += len(right)
            self.assertEqual(unknown.idle_pairs(council, order, total), tuple(right))
        self.assertGreater(seen, 30)

    def test_at_most(self):
        for seed, council in SOME:
            for order in orders_for(council, seed):
                for one, other in list(product(range(len(council)), repeat=2))[::2]:
                    total = tuple((k == other) - (k == one) for k in range(len(council)))
                    right = least(council, order, total, (-1, 0, 1)) >= 0
                    self.assertIs(unknown.at_most(council, order, one, other), right)
                    self.assertIs(unknown.holds_in_order(council, order, total), right)

    def test_needed_pairs(self):
        for _, council in SOME:
            for one, other in product(range(len(council)), repeat=2):
                right = {(ends[one], ends[other]) for ends in all_ends(council) if ends[one] != ends[other]}
                self.assertEqual(unknown.needed_pairs(council, one, other), tuple(sorted(right)))


class Bounded(unittest.TestCase):

    def bounds_for(self, council, seed):
        roll, firm = samples.rolls(seed), reckoning.firm_ones(council)
        found = []
        for k in firm:
            low = next(roll) % 9 - 4
            if next(roll) % 3:
                found.append((k, low, low + next(roll) % 4))
        return tuple(found)

    def test_by_firm(self):
        for seed, council in SOME:
            for more in (0, 1):
                told = self.bounds_for(council, seed + more) if more or seed % 4 else ()
                held = {k: (council[k],) for k in reckoning.firm_ones(council)}
                held.update({k: (low, high) for k, low, high in told})
                rows = [dict(zip(held, row)) for row in product(*held.values())]
                for total in totals_for(council, seed)[:3]:
                    values = [sum(n * row[end] for n, end in zip(total, ends))
                              for row in rows for ends in all_ends(council)]
                    self.assertEqual(unknown.least_by_firm(council, told, total), min(values))
                    self.assertEqual(unknown.greatest_by_firm(council, told, total), max(values))
                for member in range(len(council)):
                    values = [row[ends[member]] for row in rows for ends in all_ends(council)]
                    self.assertEqual(unknown.stretch_by_firm(council, told, member), (min(values), max(values)))

    def test_no_bounds(self):
        for seed, council in SOME:
            total = samples.total_for(council, seed)
            self.assertEqual(unknown.least_by_firm(council, (), total), min(reckoning.sums(council, total)))
            for member in range(len(council)):
                both = (ranges.least_held(council, member), ranges.greatest_held(council, member))
                self.assertEqual(unknown.stretch_by_firm(council, (), member), both)

    def test_bounds_of_one_number(self):
        council = (0, 6, (0, 3), (1, 2))
        self.assertEqual(unknown.stretch_by_firm(council, ((0, 2, 2), (1, 9, 9)), 2), (2, 9))
        self.assertEqual(unknown.least_by_firm(council, ((0, 9, 9), (1, 2, 2)), (0, 0, -1, 1)), -7)
        self.assertEqual(unknown.greatest_by_firm(council, ((1, -10 ** 30, 10 ** 30),), (0, 0, 0, 1)), 10 ** 30)
        self.assertEqual(unknown.least_by_firm((7,), ((0, -1, 3),), (-2,)), -6)


class Guarantees(unittest.TestCase):

    def test_holds_for_weights_and_numbers(self):
        """What holds in order is at least 0 by WEIGHTS, whatever great numbers that keep the order stand there."""
        for seed, council in SOME:
            firm = reckoning.firm_ones(council)
            roll = samples.rolls(seed)
            for order in orders_for(council, seed):
                held = {k: next(roll) % 10 ** 9 - 5 * 10 ** 8 for k in firm}
                # Each is raised until the order is kept.
                for _ in firm:
                    for one, other in order:
                        held[other] = max(held[one], held[other])
                for one, other in order:
                    held[one] = min(held[one], held[other])
                if not all(held[a] <= held[b] for a, b in order):
                    continue
                told = tuple(held.get(k, part) for k, part in enumerate(council))
                weights = samples.weights_for(council, seed)
                for total in totals_for(council, seed):
                    value = Fraction(*voices.sum_at(told, weights, total))
                    if unknown.holds_in_order(council, order, total):
                        self.assertGreaterEqual(value, 0)
                    if unknown.is_nothing_in_order(council, order, total):
                        self.assertEqual(value, 0)

    def test_with_more_pairs_all_goes_on_to_hold(self):
        for council, order, total in cases():
            if unknown.holds_in_order(council, order, total):
                for pair in reckoning.pairs_of(reckoning.firm_ones(council)):
                    more = tuple(sorted({*order, pair}))
                    self.assertIs(unknown.holds_in_order(council, more, total), True)

    def test_numbers_in_the_council_are_not_looked_at(self):
        for council, order, total in list(cases())[::5]:
            other = tuple(k * 13 % 5 - 2 if isinstance(part, int) else part for k, part in enumerate(council))
            for function in (unknown.holds_in_order, unknown.holds_from_zero, unknown.against_in_order,
                             unknown.against_from_zero, unknown.is_nothing_in_order, unknown.idle_pairs):
                self.assertEqual(function(council, order, total), function(other, order, total))


class Great(unittest.TestCase):

    def test_many(self):
        """Six firm ones, ten pairs, near 2,000 FOLLOWINGS."""
        order = tuple(sorted([(1, 0), (1, 2), (1, 3), (1, 4), (1, 5), (2, 0), (3, 0), (4, 0), (5, 0), (5, 2)]))
        ends = all_ends(MANY)
        for total in totals_for(MANY, 3) + totals_for(MANY, 8):
            sums = [{k: sum(n for n, end in zip(total, row) if end == k) for k in range(6)} for row in ends]
            rows = unknown.upward_sets(MANY, order)
            low = min(sum(part[k] for k in some) for part in sums for some in rows)
            self.assertIs(unknown.holds_from_zero(MANY, order, total), low >= 0)
            self.assertIs(unknown.holds_in_order(MANY, order, total), low >= 0 and sum(total) == 0)
            made = unknown.against_in_order(MANY, order, total)
            if made is not None:
                self.assertIs(unknown.is_against_in_order(MANY, order, total, made), True)
        self.assertIs(unknown.at_most(MANY, order, 1, 14), True)
        self.assertIs(unknown.at_most(MANY, order, 14, 0), True)
        self.assertIs(unknown.at_most(MANY, order, 14, 8), False)
        told = ((0, -10 ** 30, 10 ** 30), (1, 0, 5))
        values = [sum(held[end] for end in row) for row in ends
                  for held in (dict(zip(range(6), (-10 ** 30, 0) + MANY[2:6])),)]
        self.assertEqual(unknown.least_by_firm(MANY, told, (1,) * 16), min(values))

    def test_followings_that_are_not_gone_through(self):
        """Some millions of FOLLOWINGS."""
        self.assertEqual(unknown.stretch_by_firm(WIDE, ((0, 1, 10 ** 30), (5, -4, 0)), 9), (-7, 10 ** 30))
        self.assertEqual(unknown.stretch_by_firm(BIG, ((0, 1, 10 ** 30),), 9), (1, 10 ** 30))
        self.assertEqual(unknown.upward_sets(BIG, ((0, 1), (1, 0)))[:3], [(), (0, 1), (0, 1, 2)])
        self.assertEqual(len(unknown.upward_sets(WIDE, ())), 64)
        self.assertIs(unknown.is_told_order(WIDE, ((0, 5), (5, 0))), True)
        self.assertIs(unknown.is_in_order(WIDE, ((0, 5),), tuple((k, 10 ** 30) for k in range(6))), True)


if __name__ == "__main__":
    unittest.main()
