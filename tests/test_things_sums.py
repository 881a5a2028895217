"""Promise 2 at each is_.. function of ranges, gates, sums and between: things of all kinds, and things nearly right."""

import unittest
from itertools import product

from tests import reckoning, samples, trying
from tests.reckoning import pair
from whomheeds import between, gates, ranges, sums

SOME = list(enumerate(samples.SOUND[::29] + samples.MADE[::9] + [(7,), (0, 6, (0, 3), (1, 2), (2, 3))]))


def all_weights(council, seed):
    return [samples.weights_for(council, seed + more) for more in range(3)] + [samples.rows_for(council, 1, 10 ** 70, 5)]


class Ranges(trying.Case):

    def test_is_low(self):
        for seed, council in SOME:
            rows = all_weights(council, seed)
            member = seed % len(council)
            held = [reckoning.voice(council, row)[member] for row in rows]
            number = max(part.numerator // part.denominator for part in held[:2])
            self.check(ranges.is_low, (council, member, number),
                       [row for row, part in zip(rows, held) if part <= number],
                       lambda thing, text: reckoning.is_weights(council, thing)
                       and reckoning.voice(council, thing)[member] <= number)

    def test_is_best(self):
        for _, council in SOME:
            for word, choose in (("least", min), ("greatest", max)):
                told = reckoning.followings(council)
                held = [[council[end] for end in reckoning.ends(row)] for row in told]
                best = [choose(column) for column in zip(*held)]
                self.check_one_of(ranges.is_best, (council, word), [row for row, part in zip(told, held) if part == best])


class Gates(trying.Case):

    def test_roads(self):
        for _, council in SOME:
            for one, other in list(product(range(len(council)), repeat=2))[::3]:
                apart = [(road, back) for road in reckoning.firm_roads(council, one)
                         for back in reckoning.firm_roads(council, other) if not set(road) & set(back)]
                unlike = [told for told in apart if council[told[0][-1]] != council[told[1][-1]]]
                self.check_one_of(gates.is_apart_roads, (council, one, other), apart[:6] + apart[-1:])
                self.check_one_of(gates.is_unlike_roads, (council, one, other), unlike[:6] + unlike[-1:])

    def check_one_of(self, function, arguments, rights):
        council, one, other = arguments
        told = {(road, back) for road in reckoning.firm_roads(council, one)
                for back in reckoning.firm_roads(council, other) if not set(road) & set(back)}
        if function is gates.is_unlike_roads:
            told = {row for row in told if council[row[0][-1]] != council[row[1][-1]]}
        texts = {repr(row) for row in told}
        self.check(function, arguments, rights, lambda thing, text: text in texts)

    def test_edges(self):
        council = ((1, 3), (0, 4), (0, 1), 2, 9)
        self.assertIs(gates.is_apart_roads(council, 0, 1, ((0, 3), (1, 4))), True)
        for thing in (((1, 4), (0, 3)), ((0, 3), (1, 0, 3)), ((0, 1, 4), (1, 4)), ((0, 3), (1,)), ((0,), (1, 4)),
                      ((0, 3), (2, 1, 4)), ((0, 3), (1, 4), (1, 4)), ((0, 3),), ((), (1, 4)), ((0, 3), ()), ((), ()),
                      ((0, 4), (1, 3)), ((0, 3), (1, 4, 4)), [(0, 3), (1, 4)], ([0, 3], (1, 4)), ((0, 3), (True, 4)),
                      ((False, 3), (1, 4)), ((0, -2), (1, 4)), ((0, 3), (1, 5)), (0, 3), (((0, 3), (1, 4)),)):
            self.assertIs(gates.is_apart_roads(council, 0, 1, thing), False, thing)
            self.assertIs(gates.is_unlike_roads(council, 0, 1, thing), False, thing)
        self.assertIs(gates.is_apart_roads((6, 6), 0, 1, ((0,), (1,))), True)
        self.assertIs(gates.is_unlike_roads((6, 6), 0, 1, ((0,), (1,))), False)
        self.assertIs(gates.is_apart_roads((6, 6), 0, 0, ((0,), (0,))), False)


class Sums(trying.Case):

    def test_is_against(self):
        for seed, council in SOME:
            total = samples.total_for(council, seed)
            told = list(zip(reckoning.followings(council), reckoning.sums(council, total)))
            for number in {min(value for _, value in told), max(value for _, value in told), 1}:
                self.check_one_of(sums.is_against, (council, total, number), [row for row, value in told if value < number])

    def test_is_against_wish(self):
        for seed, council in SOME:
            wish = samples.wish_for(council, seed)
            told = list(zip(reckoning.followings(council), reckoning.wishes(council, wish)))
            for number in {max(value for _, value in told), 1}:
                self.check_one_of(sums.is_against_wish, (council, wish, number),
                                  [row for row, value in told if value < number])

    def test_is_weights_against(self):
        for seed, council in SOME:
            total, rows = samples.total_for(council, seed), all_weights(council, seed)
            values = [reckoning.value(council, row, total) for row in rows]
            number = max(part.numerator // part.denominator for part in values[:2])
            self.check(sums.is_weights_against, (council, total, number),
                       [row for row, part in zip(rows, values) if part < number],
                       lambda thing, text: reckoning.is_weights(council, thing)
                       and reckoning.value(council, thing, total) < number)


class Between(trying.Case):

    def test_is_weights_for(self):
        for seed, council in SOME:
            total, rows = samples.total_for(council, seed), all_weights(council, seed)
            for weights in rows[1:3]:
                value = reckoning.value(council, weights, total)
                self.check(between.is_weights_for, (council, total, pair(value)), [weights],
                           lambda thing, text: reckoning.is_weights(council, thing)
                           and reckoning.value(council, thing, total) == value)

    def test_lists_may_stand_for_all_but_the_thing(self):
        council, total = [0, 6, [0, 1]], [0, 0, 1]
        self.assertIs(between.is_weights_for(council, total, [3, 1], ((), (), (1, 1))), True)
        self.assertIs(between.is_weights_for(council, total, [3, 1], [[], [], [1, 1]]), False)
        self.assertIs(sums.is_weights_against(council, total, 4, ((), (), (1, 1))), True)
        self.assertIs(sums.is_weights_against(council, total, 4, ((), (), [1, 1])), False)
        self.assertIs(sums.is_against(council, total, 4, (0, 1, 0)), True)
        self.assertIs(sums.is_against(council, total, 4, [0, 1, 0]), False)
        self.assertIs(sums.is_against_wish(council, [[2, 1, 4]], 4, (0, 1, 0)), True)
        self.assertIs(ranges.is_best(council, "least", (0, 1, 0)), True)
        self.assertIs(ranges.is_low(council, 2, 3, ((), (), (1, 1))), True)
        self.assertIs(gates.is_apart_roads(council, 0, 2, ((0,), (2, 1))), True)


if __name__ == "__main__":
    unittest.main()
