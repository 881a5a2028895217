"""Promise 2 at each is_.. function of orders, unknown, bounds and lots: things of all kinds, and things nearly right."""

import unittest
from fractions import Fraction
from itertools import combinations

from tests import reckoning, samples, test_bounds, test_lots, test_unknown, trying
from tests.reckoning import pair
from whomheeds import bounds, lots, orders, unknown

SOME = list(enumerate(samples.SOUND[::29] + samples.MADE[::9] + [(7,), (0, 6, (0, 3), (1, 2))]))
FEW = [(seed, council) for seed, council in SOME if len(council) <= 5]


def subsets(parts, most):
    return [tuple(sorted(some)) for many in range(most + 1) for some in combinations(parts, many)]


class Orders(trying.Case):

    def test_is_weights_of(self):
        for seed, council in SOME:
            rows = [samples.weights_for(council, seed), samples.rows_for(council, 1, 10 ** 70, 5)]
            for weights in rows:
                told = reckoning.voice(council, weights)
                self.check(orders.is_weights_of, (council, tuple(map(pair, told))), [weights],
                           lambda thing, text: reckoning.is_weights(council, thing)
                           and reckoning.voice(council, thing) == told)

    def test_is_order(self):
        for seed, council in SOME:
            voice = [Fraction(*part) for part in map(pair, reckoning.voice(council, samples.weights_for(council, seed)))]
            right = [reckoning.order_by(voice), orders.all_orders(council)[0] if len(council) < 6 else
                     reckoning.order_by(voice)]
            self.check(orders.is_order, (council,), right, lambda thing, text: reckoning.is_order(council, thing))

    def test_is_order_edges(self):
        council = (5, 5, 3, (0, 2))
        for thing in (((2,), (3,), (0, 1)), ((2,), (0, 1, 3)), ((3,), (2,), (0, 1)), ((2,), (0, 1), (3,))):
            self.assertIs(orders.is_order(council, thing), True, thing)
        for thing in (((2,), (3,), (0,), (1,)), ((2, 0, 1, 3),), ((0, 1, 2, 3),), ((0, 1), (3,), (2,)), ((2,), (0, 1)),
                      ((2,), (3,), (3,), (0, 1)), ((2,), (), (3,), (0, 1)), ((2,), (3,), (1, 0)), ((2,), (3,), (0, 1, 4)),
                      ((2,), (3,), (0, True)), ((2,), (3,), (-1, 0, 1)), [(2,), (3,), (0, 1)], ((2,), [3], (0, 1)), ()):
            self.assertIs(orders.is_order(council, thing), False, thing)

    def test_is_voice_with(self):
        for _, council in FEW:
            for order in orders.all_orders(council)[:3]:
                made = orders.voice_with(council, order)
                self.check(orders.is_voice_with, (council, order), [made],
                           lambda thing, text: self.is_voice_with(council, order, thing))

    def is_voice_with(self, council, order, thing):
        if type(thing) is not tuple or len(thing) != len(council) or not all(map(reckoning.is_fraction, thing)):
            return False
        told = tuple(Fraction(*part) for part in thing)
        if any(told[k] != council[k] for k in reckoning.firm_ones(council)):
            return False
        return reckoning.misfits(council, told) == () and reckoning.order_by(told) == order


class Unknown(trying.Case):

    def test_is_told_order(self):
        for _, council in SOME:
            right = subsets(reckoning.pairs_of(reckoning.firm_ones(council)), 10 if len(council) < 6 else 2)[:70]
            texts = {repr(order) for order in subsets(reckoning.pairs_of(reckoning.firm_ones(council)), 4)}
            self.check(unknown.is_told_order, (council,), right[:9] + right[-2:],
                       lambda thing, text: text in texts)

    def test_is_in_order(self):
        for seed, council in SOME:
            firm = reckoning.firm_ones(council)
            for order in test_unknown.orders_for(council, seed):
                right = [tuple((k, 10 ** 40) for k in firm), tuple((k, 0) for k in firm)]
                self.check(unknown.is_in_order, (council, order), right,
                           lambda thing, text: reckoning.is_in_order(council, order, thing))

    def test_is_against(self):
        for seed, council in FEW:
            for order in test_unknown.orders_for(council, seed)[:3]:
                for total in test_unknown.totals_for(council, seed)[:3]:
                    for function, against, least in (
                            (unknown.is_against_in_order, unknown.against_in_order, None),
                            (unknown.is_against_from_zero, unknown.against_from_zero, 0)):
                        made = against(council, order, total)
                        self.check(function, (council, order, total), [] if made is None else [made],
                                   lambda thing, text: reckoning.is_pair_against(council, order, total, thing, least))


class Bounds(trying.Case):

    def test_is_bounds(self):
        for seed, council in SOME + list(enumerate(samples.UNSOUND[::90])):
            right = [test_bounds.bounds_for(council, seed), test_bounds.bounds_for(council, seed, 0)]
            right += [tuple(tuple((n, 10 ** 60) for n in row) for row in samples.weights_for(council, seed))]
            self.check(bounds.is_bounds, (council,), right, lambda thing, text: reckoning.is_bounds(council, thing))

    def test_is_corner(self):
        for seed, council in SOME + list(enumerate(samples.UNSOUND[::90])):
            told = test_bounds.bounds_for(council, seed, 4)
            texts = {repr(corner) for corner in reckoning.corners(told)}
            self.check(bounds.is_corner, (council, told), reckoning.corners(told)[:2], lambda thing, text: text in texts)

    def test_is_highest_and_lowest(self):
        for seed, council in SOME:
            told = test_bounds.bounds_for(council, seed, 4)
            rows = test_bounds.corner_voices(council, told)
            for function, made, choose in ((bounds.is_highest, bounds.highest_corner(council, told), max),
                                           (bounds.is_lowest, bounds.lowest_corner(council, told), min)):
                best = tuple(choose(column) for column in zip(*[voice for _, voice in rows]))
                much = tuple(tuple(n * (k + 10 ** 70) for n in row) for k, row in enumerate(made))
                self.check(function, (council, told), [made, much],
                           lambda thing, text: reckoning.is_weights(council, thing) and reckoning.fits(told, thing)
                           and reckoning.voice(council, thing) == best)

    def test_within(self):
        for seed, council in SOME:
            told, total = test_bounds.bounds_for(council, seed, 4), samples.total_for(council, seed)
            made = test_bounds.weights_in(told, seed)
            value = reckoning.value(council, made, total)
            self.check(bounds.is_weights_within, (council, told, total, pair(value)), [made],
                       lambda thing, text: reckoning.is_weights(council, thing) and reckoning.fits(told, thing)
                       and reckoning.value(council, thing, total) == value)
            self.check(bounds.is_against_within, (council, told, total), [made] if value < 0 else [],
                       lambda thing, text: reckoning.is_weights(council, thing) and reckoning.fits(told, thing)
                       and reckoning.value(council, thing, total) < 0)


class Lots(trying.Case):

    def test_is_heeds(self):
        for seed, council in SOME:
            told = test_lots.triples_of(council)
            right = test_lots.heeds_for(council, seed) + [tuple(told)]
            self.check(lots.is_heeds, (council,), right, lambda thing, text: self.is_heeds(told, thing))

    def is_heeds(self, told, thing):
        if type(thing) is not tuple or not all(type(part) is tuple and len(part) == 3 for part in thing):
            return False
        if not all(reckoning.is_number(n) for part in thing for n in part):
            return False
        return list(thing) == sorted(set(thing)) and set(thing) <= set(told)

    def test_is_heeding(self):
        for seed, council in SOME:
            total = samples.total_for(council, seed)
            for heeds in test_lots.heeds_for(council, seed)[:3]:
                made = test_lots.keeping(council, heeds, seed)
                value = reckoning.value(council, made, total)
                number = value.numerator // value.denominator + 1
                self.check(lots.is_heeding, (council, heeds, total, pair(value)), [made],
                           lambda thing, text: reckoning.is_weights(council, thing)
                           and reckoning.keeps_heeds(council, heeds, thing)
                           and reckoning.value(council, thing, total) == value)
                self.check(lots.is_heeding_against, (council, heeds, total, number), [made],
                           lambda thing, text: reckoning.is_weights(council, thing)
                           and reckoning.keeps_heeds(council, heeds, thing)
                           and reckoning.value(council, thing, total) < number)

    def test_are_best(self):
        for seed, council in SOME:
            for heeds in test_lots.heeds_for(council, seed)[:3]:
                rows = test_lots.voices_by_lots(council, heeds)
                for function, choose in ((lots.is_high_lots, max), (lots.is_low_lots, min)):
                    best = tuple(choose(column) for column in zip(*[voice for _, voice in rows]))
                    right = [row for row, voice in rows if voice == best]
                    texts = {repr(row) for row in right}
                    self.check(function, (council, heeds), right[:2], lambda thing, text: text in texts)

    def test_lists_may_stand_for_all_but_the_thing(self):
        council, heeds = [0, 6, [0, 1]], [[2, 0, 1]]
        self.assertIs(lots.is_heeds(council, ((2, 0, 1),)), True)
        self.assertIs(lots.is_heeds(council, heeds), False)
        self.assertIs(lots.is_heeding(council, heeds, [0, 0, 1], [2, 1], ((), (), (2, 1))), True)
        self.assertIs(lots.is_high_lots(council, heeds, ((), (), (0, 1))), True)
        self.assertIs(lots.is_high_lots(council, heeds, ((), (), [0, 1])), False)
        self.assertIs(bounds.is_corner(council, [[], [], [[1, 2], [1, 1]]], ((), (), (2, 1))), True)
        self.assertIs(bounds.is_bounds(council, ((), (), ((1, 2), (1, 1)))), True)
        self.assertIs(bounds.is_bounds(council, ((), (), ([1, 2], (1, 1)))), False)
        self.assertIs(unknown.is_in_order(council, [[0, 1]], ((0, 1), (1, 1))), True)
        self.assertIs(unknown.is_told_order(council, [[0, 1]]), False)
        self.assertIs(orders.is_order(council, ((0,), (2,), (1,))), True)
        self.assertIs(orders.is_order(council, ((0,), [2], (1,))), False)
        self.assertIs(orders.is_voice_with(council, [[0], [2], [1]], ((0, 1), (6, 1), (1, 7))), True)


if __name__ == "__main__":
    unittest.main()
