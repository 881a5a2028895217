"""Promise 17: buyers, held against a plain reckoning over all ROADS, all sets of askers and all FOLLOWINGS."""

import unittest
from fractions import Fraction
from itertools import combinations, product

from tests import reckoning, samples
from tests.samples import BIG, LONG, MADE, MANY, SOUND, WIDE
from whomheeds import buyers, sums
from whomheeds.errors import Unfit

TOWN = ((2, 4), (3, 4), (1, 5), (5, 6), 9, 3, 0)
COUNCILS = SOUND[::9] + MADE[::2] + [(7,), (7, 7), (5, (0, 2), (1,)), (3, 3, (0, 1, 3), (1, 2)), TOWN,
                                     ((1, 2, 3), (2, 3, 4), (0, 4), (0, 1), 5, (0, 6), -5)]


def subsets(numbers):
    return [some for many in range(len(numbers) + 1) for some in combinations(numbers, many)]


def low_roads(council, some, number):
    """All low ROADS of some."""
    return [road for k in some for road in reckoning.firm_roads(council, k) if council[road[-1]] < number]


def is_sure(roads, bought):
    return all(set(road) & set(bought) for road in roads)


def cases():
    """COUNCILS with sets of MEMBERS and numbers, at and beside those that firm ones hold."""
    for seed, council in enumerate(COUNCILS):
        roll = samples.rolls(seed)
        held = sorted({council[k] for k in reckoning.firm_ones(council)})
        every = tuple(range(len(council)))
        askers = reckoning.askers(council)
        sets = {(), every, askers, tuple(k for k in every if next(roll) % 3 == 0), askers[:1], askers[-2:]}
        for some in sorted(sets):
            for number in sorted({held[0], held[0] + 1, held[-1], held[-1] + 1, held[len(held) // 2] + 1}):
                yield council, some, number


def are_apart(roads):
    stood = [k for road in roads for k in road[:-1]]
    return len(stood) == len(set(stood))


class Bought(unittest.TestCase):

    def test_sure(self):
        """By the guarantee: one of bought stands on each low ROAD."""
        seen = {True: 0, False: 0}
        for council, some, number in cases():
            roads = low_roads(council, some, number)
            for bought in subsets(reckoning.askers(council))[::3]:
                right = is_sure(roads, bought)
                seen[right] += 1
                self.assertIs(buyers.are_sure(council, some, number, bought), right)
                made = buyers.low_road(council, some, number, bought)
                self.assertEqual(made is None, right)
                if made is not None:
                    self.assertIn(made, [road for road in roads if not set(road) & set(bought)])
                    self.assertIs(buyers.is_low_road(council, some, number, bought, made), True)
                for road in roads[:6]:
                    self.assertIs(buyers.is_low_road(council, some, number, bought, road), not set(road) & set(bought))
        self.assertGreater(min(seen.values()), 300)

    def test_sure_for_weights_and_whatever_is_held(self):
        """The words of the point: the bought ones made firm, with number and with more, FOR ALL WEIGHTS."""
        for council, some, number in list(cases())[::3]:
            for bought in subsets(reckoning.askers(council))[::5]:
                right = buyers.are_sure(council, some, number, bought)
                told = True
                for more in product((0, 1, 50), repeat=min(2, len(bought))):
                    held = dict(zip(bought, more + (3,) * len(bought)))
                    after = tuple(number + held[k] if k in held else part for k, part in enumerate(council))
                    for k in some:
                        total = tuple(int(k == other) for other in range(len(council)))
                        told = told and sums.least_value(after, total) >= number
                self.assertEqual(told, right)

    def test_fewest(self):
        """The guarantee: as many low ROADS as askers must be bought, no two with an asker in common."""
        seen = set()
        for council, some, number in cases():
            roads = low_roads(council, some, number)
            enough = [bought for bought in subsets(reckoning.askers(council)) if is_sure(roads, bought)]
            fewest = min(map(len, enough)) if enough else None
            seen.add(fewest)
            self.assertEqual(buyers.fewest_bought(council, some, number), fewest)
            least = min(bought for bought in enough if len(bought) == fewest) if enough else None
            self.assertEqual(buyers.least_bought(council, some, number), least)
            made = buyers.roads_apart(council, some, number)
            if fewest is None:
                self.assertIsNone(made)
                self.assertIs(buyers.is_roads_apart(council, some, number, ()), False)
                continue
            self.assertEqual(len(made), fewest)
            self.assertEqual(list(made), sorted(set(made)))
            self.assertTrue(set(made) <= set(roads) and are_apart(made))
            self.assertIs(buyers.is_roads_apart(council, some, number, made), True)
            minimal = [bought for bought in enough if not any(set(rest) < set(bought) for rest in enough)]
            self.assertEqual(buyers.all_least_bought(council, some, number), sorted(minimal))
        self.assertTrue({None, 0, 1, 2, 3} <= seen)

    def test_is_roads_apart(self):
        for council, some, number in list(cases())[::4]:
            roads = low_roads(council, some, number)[:9]
            fewest = buyers.fewest_bought(council, some, number)
            for rows in subsets(roads)[:200]:
                right = fewest is not None and len(rows) == fewest and are_apart(rows)
                self.assertIs(buyers.is_roads_apart(council, some, number, tuple(sorted(rows))), right)

    def test_not_to_be_sure(self):
        for council, some in (((3, (0,)), (0,)), (TOWN, (0, 6))):
            number = 5
            for function in (buyers.fewest_bought, buyers.least_bought, buyers.roads_apart, buyers.needed_bought):
                self.assertIsNone(function(council, some, number))
            self.assertEqual(buyers.all_least_bought(council, some, number), [])
            self.assertIsNone(buyers.cheapest_bought(council, some, number, (0,) * len(council)))
            self.assertEqual(buyers.low_road(council, some, number, ()), (some[-1],))

    def test_needed(self):
        for council, some, number in cases():
            roads, askers = low_roads(council, some, number), reckoning.askers(council)
            right = tuple(k for k in askers if not is_sure(roads, set(askers) - {k}))
            if not is_sure(roads, askers):
                right = None
            self.assertEqual(buyers.needed_bought(council, some, number), right)

    def test_cheapest(self):
        seen = set()
        for seed, (council, some, number) in enumerate(cases()):
            roll = samples.rolls(seed)
            roads = low_roads(council, some, number)
            for row in ((0,) * len(council), tuple((next(roll) % 6, None, 10 ** 30)[min(2, next(roll) % 5 // 2)] for _ in council)):
                costs = [[row[k] for k in bought] for bought in subsets(reckoning.askers(council)) if is_sure(roads, bought)]
                right = min((sum(cost) for cost in costs if None not in cost), default=None)
                seen.add(right)
                self.assertEqual(buyers.cheapest_bought(council, some, number, row), right)
        self.assertTrue({None, 0} < seen)

    def test_prices_that_are_not_as_many(self):
        for row in ((), (1,) * 6, (1,) * 8):
            with self.assertRaises(Unfit):
                buyers.cheapest_bought(TOWN, (0,), 5, row)
        self.assertEqual(buyers.cheapest_bought(TOWN, (0,), 5, [4, 1, 2, 4, None, None, -7]), 2)


class Ends(unittest.TestCase):

    def counts(self, council):
        """How many firm ones, and which, askers end at, by all FOLLOWINGS."""
        askers = reckoning.askers(council)
        return [(row, {reckoning.end_of(row, k) for k in askers}) for row in reckoning.followings(council)]

    def test_most(self):
        for council in COUNCILS:
            rows = self.counts(council)
            most = max(len(ends) for _, ends in rows)
            self.assertEqual(buyers.most_ends(council), most)
            made = buyers.following_to_most(council)
            self.assertIn((made, most), [(row, len(ends)) for row, ends in rows])
            fewest = min(len(ends) for _, ends in rows)
            self.assertEqual(buyers.fewest_ends(council), fewest)
            self.assertEqual(buyers.least_ends(council), min(tuple(sorted(ends)) for _, ends in rows if len(ends) == fewest))

    def test_bar(self):
        for council in COUNCILS:
            most = buyers.most_ends(council)
            made = buyers.bar(council)
            self.assertTrue(self.covers(council, made))
            self.assertEqual(len(made[0]) + len(made[1]), most)
            self.assertIs(buyers.is_bar(council, made), True)
            for firm in subsets(reckoning.firm_ones(council)):
                for askers in subsets(reckoning.askers(council)):
                    right = len(firm) + len(askers) == most and self.covers(council, (firm, askers))
                    self.assertIs(buyers.is_bar(council, (firm, askers)), right)

    def covers(self, council, pair):
        firm, askers = pair
        self.assertTrue(set(firm) <= set(reckoning.firm_ones(council)))
        self.assertTrue(set(askers) <= set(reckoning.askers(council)))
        self.assertEqual((list(firm), list(askers)), (sorted(set(firm)), sorted(set(askers))))
        return all(asker in askers or goal in firm for asker, goal in reckoning.arcs(council)
                   if reckoning.is_firm(council, goal))

    def test_without_askers(self):
        for council in ((7,), (7, 7, -1)):
            self.assertEqual((buyers.most_ends(council), buyers.fewest_ends(council)), (0, 0))
            self.assertEqual((buyers.least_ends(council), buyers.bar(council)), ((), ((), ())))
            self.assertEqual(buyers.following_to_most(council), tuple(range(len(council))))
            self.assertEqual(buyers.fewest_bought(council, (0,), 7), 0)
            self.assertEqual(buyers.all_least_bought(council, (0,), 7), [()])


class Great(unittest.TestCase):
    """COUNCILS at the bounds, with up to millions of FOLLOWINGS."""

    def test_bought(self):
        for council in (BIG, WIDE, LONG, MANY):
            askers, many = reckoning.askers(council), len(council)
            held = sorted({council[k] for k in reckoning.firm_ones(council)})
            for number in (held[1], held[-1], held[len(held) // 2] + 1):
                for some in (askers, askers[:3], askers[-1:]):
                    self.check(council, some, number, askers, many)

    def reaches_low(self, council, some, number, bought):
        """Whether one comes from some to a low one past bought."""
        seen, ahead = set(), [k for k in some if k not in bought]
        while ahead:
            here = ahead.pop()
            if here not in seen and here not in bought:
                seen.add(here)
                ahead.extend(reckoning.asks(council, here))
        return any(reckoning.is_firm(council, k) and council[k] < number for k in seen)

    def check(self, council, some, number, askers, many):
        made = buyers.roads_apart(council, some, number)
        least = buyers.least_bought(council, some, number)
        self.assertEqual(len(made), len(least))
        self.assertTrue(are_apart(made))
        self.assertFalse(self.reaches_low(council, some, number, least))
        for road in made:
            self.assertTrue(road[0] in some and council[road[-1]] < number)
            self.assertTrue(all(b in reckoning.asks(council, a) for a, b in zip(road, road[1:])))
        self.assertIs(buyers.are_sure(council, some, number, least), True)
        self.assertEqual(buyers.fewest_bought(council, some, number), len(least))
        self.assertEqual(buyers.cheapest_bought(council, some, number, (1,) * many), len(least))
        dear = [None if k in least[:1] else 10 ** 30 for k in range(many)]
        right = min((10 ** 30 * len(bought) for bought in subsets(askers) if not set(bought) & set(least[:1])
                     and not self.reaches_low(council, some, number, bought)), default=None)
        self.assertEqual(buyers.cheapest_bought(council, some, number, dear), right)
        needed = tuple(k for k in askers if self.reaches_low(council, some, number, set(askers) - {k}))
        self.assertEqual(buyers.needed_bought(council, some, number), needed)

    def test_all_least(self):
        council = ((1, 2, 8), (2, 3, 9), (3, 4, 8), (4, 5, 9), (5, 6, 8), (6, 7, 9), (0, 7), (0, 1), 3, 7, 9)
        roads = low_roads(council, (0, 3), 5)
        enough = [set(bought) for bought in subsets(range(8)) if is_sure(roads, bought)]
        right = sorted(tuple(sorted(bought)) for bought in enough if not any(rest < bought for rest in enough))
        self.assertEqual(buyers.all_least_bought(council, (0, 3), 5), right)

    def test_ends(self):
        self.assertEqual(buyers.most_ends(BIG), 2)
        self.assertEqual((buyers.fewest_ends(BIG), buyers.least_ends(BIG)), (2, (0, 1)))
        self.assertEqual(buyers.most_ends(WIDE), 6)
        self.assertEqual(buyers.fewest_ends(WIDE), 1)
        for council in (BIG, WIDE, LONG, MANY):
            made = buyers.following_to_most(council)
            self.assertEqual(len({reckoning.end_of(made, k) for k in reckoning.askers(council)}), buyers.most_ends(council))
            self.assertIs(buyers.is_bar(council, buyers.bar(council)), True)

    def test_sure_by_weights(self):
        """Some WEIGHTS by which somebody holds less, where they are not sure."""
        for council, some, number in list(cases())[::7]:
            if buyers.low_road(council, some, number, ()) is not None:
                low = min(min(reckoning.sums(council, tuple(int(k == other) for other in range(len(council)))))
                          for k in some)
                self.assertLess(low, number)
            else:
                voice = reckoning.voice(council, samples.weights_for(council, number % 7))
                self.assertTrue(all(voice[k] >= Fraction(number) for k in some))


if __name__ == "__main__":
    unittest.main()
