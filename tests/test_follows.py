"""Promise 6: the FOLLOWINGS, each function held against a plain reckoning, and the guarantees."""

import unittest
from fractions import Fraction
from itertools import product

from tests import reckoning, samples
from tests.reckoning import pair
from tests.samples import BIG, SOUND, WIDE
from whomheeds import councils, follows, voices
from whomheeds.errors import NoNumber, Unfit

SOME = SOUND[::2] + [(0, 12, (0, 3), (1, 2)), (5, (0, 2), (1,)), (3, 3, (0, 1, 3), (1, 2)), (7,), (7, 7), (5, (0, 2), (1, 3), 9)]
FEW = SOUND[::7] + SOME[-6:]


def all_choices(council):
    """Each asker follows one of those that it asks, or nothing is chosen for it."""
    chosen = reckoning.askers(council)
    for goals in product(*[(None,) + council[k] for k in chosen]):
        yield tuple((k, goal) for k, goal in zip(chosen, goals) if goal is not None)


def has(row, choices):
    return all(row[k] == goal for k, goal in choices)


class Counted(unittest.TestCase):

    def test_all_followings(self):
        for council in SOUND:
            told = reckoning.followings(council)
            self.assertEqual(follows.all_followings(council), told)
            self.assertEqual(follows.how_many(council), len(told))

    def test_ends_and_products(self):
        for seed, council in enumerate(SOME):
            weights = samples.weights_for(council, seed)
            for row in reckoning.followings(council):
                self.assertIs(follows.is_following(council, row), True)
                self.assertEqual(follows.ends_of(council, row), reckoning.ends(row))
                self.assertEqual(follows.product_of(council, weights, row),
                                 reckoning.weight_product(council, weights, row))
        self.assertEqual(follows.product_of((5, 6), ((), ()), (0, 1)), 1)

    def test_places(self):
        for council in SOME:
            told = reckoning.followings(council)
            for place, row in enumerate(told):
                self.assertEqual(follows.nth_following(council, place), row)
                self.assertEqual(follows.place_of(council, row), place)
            for number in (-1, -len(told), len(told), 10 ** 30, -10 ** 30):
                with self.assertRaises(NoNumber) as caught:
                    follows.nth_following(council, number)
                self.assertEqual(caught.exception.number, number)

    def test_how_many_ending(self):
        for council in SOME:
            told = reckoning.followings(council)
            for member in range(len(council)):
                for firm in reckoning.firm_ones(council):
                    right = sum(reckoning.end_of(row, member) == firm for row in told)
                    self.assertEqual(follows.how_many_ending(council, member, firm), right)

    def test_choices(self):
        for council in FEW:
            told = reckoning.followings(council)
            for choices in all_choices(council):
                right = [row for row in told if has(row, choices)]
                self.assertEqual(follows.how_many_with(council, choices), len(right))
                self.assertIs(follows.goes_on(council, choices), right != [])
                self.assertEqual(follows.completed(council, choices), right[0] if right else None)
                alone = dict(choices)
                narrow = tuple((alone[k],) if k in alone else part for k, part in enumerate(council))
                self.assertEqual(follows.shut_in(council, choices), reckoning.lost(narrow))

    def test_no_choices(self):
        for council in SOME:
            self.assertEqual(follows.how_many_with(council, ()), len(reckoning.followings(council)))
            self.assertEqual(follows.completed(council, ()), reckoning.followings(council)[0])
            self.assertIs(follows.goes_on(council, ()), True)
            self.assertEqual(follows.shut_in(council, ()), ())

    def test_dead_and_sure(self):
        for council in SOUND:
            told = reckoning.followings(council)
            dead = [arc for arc in sorted(reckoning.arcs(council)) if not any(row[arc[0]] == arc[1] for row in told)]
            sure = [arc for arc in sorted(reckoning.arcs(council)) if all(row[arc[0]] == arc[1] for row in told)]
            self.assertEqual(follows.dead_arcs(council), tuple(dead))
            self.assertEqual(follows.sure_arcs(council), tuple(sure))


class Changed(unittest.TestCase):

    def test_turned(self):
        for council in FEW:
            told = reckoning.followings(council)
            for row in told[::3]:
                for asker in reckoning.askers(council):
                    for goal in range(len(council)):
                        right = row[:asker] + (goal,) + row[asker + 1:]
                        if right in told:
                            self.assertEqual(follows.turned(council, row, asker, goal), right)
                        else:
                            with self.assertRaises(Unfit):
                                follows.turned(council, row, asker, goal)

    def test_changes(self):
        for council in SOME:
            told = reckoning.followings(council)
            for one, other in list(product(told, told))[::7]:
                made = follows.changes(council, one, other)
                self.assertEqual((made[0], made[-1]), (one, other))
                self.assertEqual(len(made) - 1, sum(a != b for a, b in zip(one, other)))
                self.assertTrue(set(made) <= set(told))
                for step, later in zip(made, made[1:]):
                    self.assertEqual(sum(a != b for a, b in zip(step, later)), 1)
                self.assertIs(follows.is_changes(council, one, other, made), True)

    def test_changes_of_nothing(self):
        council, row = (5, 6, (0, 1)), (0, 1, 0)
        self.assertEqual(follows.changes(council, row, row), (row,))
        self.assertEqual(follows.changes((5,), (0,), (0,)), ((0,),))


class Priced(unittest.TestCase):

    def test_prices(self):
        for seed, council in enumerate(SOUND):
            prices = samples.prices_for(council, seed)
            told = reckoning.followings(council)
            for row in told[:20]:
                self.assertEqual(follows.price_of(council, prices, row), reckoning.price_sum(council, prices, row))
            right = min(told, key=lambda row: (reckoning.price_sum(council, prices, row), row))
            self.assertEqual(follows.cheapest_following(council, prices), right)

    def test_nothing_to_pay(self):
        for council in SOME:
            free = samples.rows_for(council, 1, 0, 1)
            self.assertEqual(follows.cheapest_following(council, free), reckoning.followings(council)[0])
            self.assertEqual(follows.laying(council, free), ())
            self.assertIs(follows.is_laying(council, free, ()), True)

    def test_layings(self):
        for seed, council in enumerate(SOUND):
            for more in range(3):
                prices = samples.prices_for(council, seed * 3 + more)
                made = follows.laying(council, prices)
                self.assertTrue(reckoning.is_laying(council, prices, made), made)
                self.assertEqual(sum(number for _, number in made), reckoning.least_price(council, prices))
                self.assertIs(follows.is_laying(council, prices, made), True)

    def test_no_laying_is_greater(self):
        """On COUNCILS with two askers all LAYINGS with small numbers are tried."""
        for council in ((0, 12, (0, 3), (1, 2)), (5, (0, 2), (0, 1)), (5, (0, 2), (1,)), (1, 2, (0, 1), (2,))):
            lots = samples.sets_of(reckoning.askers(council))
            for seed in range(8):
                prices = samples.prices_for(council, seed)
                sums = [0]
                for numbers in product(range(6), repeat=len(lots)):
                    told = tuple(sorted((lot, n) for lot, n in zip(lots, numbers) if n))
                    fits = all(sum(n for lot, n in told if asker in lot and goal not in lot) <=
                               dict(zip(council[asker], prices[asker]))[goal]
                               for asker, goal in reckoning.arcs(council))
                    if fits:
                        sums.append(sum(n for _, n in told))
                best = sum(n for _, n in follows.laying(council, prices))
                self.assertEqual(best, reckoning.least_price(council, prices))
                self.assertGreaterEqual(best, max(sums))

    def test_edges(self):
        self.assertEqual(follows.laying((5, 7), ((), ())), ())
        self.assertEqual(follows.cheapest_following((5, 7), ((), ())), (0, 1))
        self.assertEqual(follows.price_of((5, 7), ((), ()), (0, 1)), 0)
        self.assertEqual(follows.laying((5, (0,)), ((), (10 ** 30,))), (((1,), 10 ** 30),))
        # Two that cost alike: the least.
        self.assertEqual(follows.cheapest_following((5, 6, (0, 1), (0, 2)), ((), (), (3, 3), (4, 4))), (0, 1, 0, 0))
        # The cheap arcs make a ring.
        council, prices = (5, 6, (0, 3), (1, 2)), ((), (), (9, 0), (8, 0))
        self.assertEqual(follows.cheapest_following(council, prices), (0, 1, 3, 1))
        self.assertEqual(sum(n for _, n in follows.laying(council, prices)), 8)


class Guarantees(unittest.TestCase):

    def test_goes_on_exactly_if_nobody_is_shut_in(self):
        for council in FEW:
            told = reckoning.followings(council)
            for choices in all_choices(council):
                alone = dict(choices)
                narrow = tuple((alone[k],) if k in alone else part for k, part in enumerate(council))
                self.assertEqual(any(has(row, choices) for row in told), reckoning.lost(narrow) == ())
                self.assertIs(follows.goes_on(council, choices), follows.shut_in(council, choices) == ())

    def test_ends_are_shares_by_equal_weights(self):
        for council in SOME:
            weights, many = voices.equal_weights(council), follows.how_many(council)
            for member in range(len(council)):
                for firm in reckoning.firm_ones(council):
                    part = pair(Fraction(follows.how_many_ending(council, member, firm), many))
                    self.assertEqual(part, voices.share(council, weights, member, firm))

    def test_dead_arcs_lead_by_their_asker_alone(self):
        for council in SOME:
            told = [road for road in reckoning.all_roads(council) if isinstance(council[road[-1]], int)]
            dead = tuple((asker, goal) for asker, goal in sorted(reckoning.arcs(council))
                         if all(asker in road for road in told if road[0] == goal))
            self.assertEqual(follows.dead_arcs(council), dead)

    def test_the_voice_hangs_on_no_dead_arc(self):
        seen = 0
        for seed, council in enumerate(SOUND):
            weights = samples.weights_for(council, seed)
            voice = voices.voice_by(council, weights)
            for asker, goal in follows.dead_arcs(council):
                seen += 1
                for number in (1, 10 ** 30):
                    other = voices.with_weight(council, weights, asker, goal, number)
                    self.assertEqual(voices.voice_by(council, other), voice)
                place = council[asker].index(goal)
                less = weights[:asker] + (weights[asker][:place] + weights[asker][place + 1:],) + weights[asker + 1:]
                self.assertEqual(voices.voice_by(councils.without_arc(council, asker, goal), less), voice)
        self.assertGreater(seen, 20)


class Great(unittest.TestCase):
    """COUNCILS at the bounds, with more than a million FOLLOWINGS."""

    def test_how_many(self):
        self.assertEqual(follows.how_many(BIG), 6 ** 8)
        self.assertGreater(follows.how_many(BIG), 10 ** 6)
        self.assertEqual(follows.how_many(WIDE), 5590775)
        for council in (BIG, WIDE):
            many = follows.how_many(council)
            for asker in councils.askers(council):
                told = [follows.how_many_with(council, ((asker, goal),)) for goal in council[asker]]
                self.assertEqual(sum(told), many)
            for member in range(16):
                told = [follows.how_many_ending(council, member, firm) for firm in councils.firm_ones(council)]
                self.assertEqual(sum(told), many)

    def test_places_in_blocks(self):
        """The FOLLOWINGS of BIG are those of its first block, each with all of its second one."""
        first = [row[6:] for row in reckoning.followings(BIG[:11])]
        second = [tuple(n - 1 if n == 1 else n for n in row[6:])
                  for row in reckoning.followings((BIG[1],) + BIG[1:6] + samples.block(6, 0))]
        self.assertEqual((len(first), len(second)), (6 ** 4, 6 ** 4))
        for number in (0, 1, 6 ** 4 - 1, 6 ** 4, 777777, 10 ** 6, 6 ** 8 - 1):
            front, back = first[number // 6 ** 4], second[number % 6 ** 4]
            row = tuple(range(6)) + front + tuple(1 if n == 0 else n + 5 for n in back)
            self.assertEqual(follows.nth_following(BIG, number), row)
            self.assertEqual(follows.place_of(BIG, row), number)
            self.assertEqual(follows.ends_of(BIG, row), (0, 1, 2, 3, 4, 5) + (0,) * 5 + (1,) * 5)
        for number in (-1, 6 ** 8):
            with self.assertRaises(NoNumber):
                follows.nth_following(BIG, number)

    def test_places(self):
        many = follows.how_many(WIDE)
        rows = [follows.nth_following(WIDE, number) for number in range(0, many, 555555)]
        self.assertEqual(rows, sorted(rows))
        for place, row in enumerate(rows):
            self.assertIs(follows.is_following(WIDE, row), True)
            self.assertEqual(follows.place_of(WIDE, row), place * 555555)
        for one, other in zip(rows, rows[1:]):
            made = follows.changes(WIDE, one, other)
            self.assertIs(follows.is_changes(WIDE, one, other, made), True)
            self.assertTrue(all(follows.is_following(WIDE, step) for step in made))
        self.assertEqual(follows.completed(WIDE, ()), rows[0])

    def test_choices_and_arcs(self):
        ring = ((6, 7), (7, 9), (9, 6))
        self.assertIs(follows.goes_on(WIDE, ring), False)
        self.assertEqual(follows.shut_in(WIDE, ring), (6, 7, 9))
        self.assertIsNone(follows.completed(WIDE, ring))
        self.assertEqual(follows.how_many_with(WIDE, ring), 0)
        row = follows.completed(WIDE, ring[:2])
        self.assertEqual(row, follows.nth_following(WIDE, follows.place_of(WIDE, row)))
        self.assertEqual(row[6:8], (7, 9))
        self.assertEqual((follows.dead_arcs(WIDE), follows.sure_arcs(WIDE)), ((), ()))
        with self.assertRaises(Unfit):
            follows.turned(WIDE, row, 9, 6)

    def test_products(self):
        weights = samples.rows_for(WIDE, 3, 10 ** 30 - 900, 900)
        row = follows.nth_following(WIDE, 4000000)
        self.assertEqual(follows.product_of(WIDE, weights, row), reckoning.weight_product(WIDE, weights, row))

    def test_prices_in_blocks(self):
        """The cheapest one is put together from those of both blocks."""
        prices = samples.rows_for(BIG, 5, 10 ** 29, 97)
        right = list(range(6))
        for start, firm in ((6, 0), (11, 1)):
            small = (1,) * start + samples.block(start, firm)
            rows = prices[:6] + ((),) * (start - 6) + prices[start:start + 5]
            right += min(reckoning.followings(small),
                         key=lambda row: (reckoning.price_sum(small, rows, row), row))[start:]
        self.assertEqual(follows.cheapest_following(BIG, prices), tuple(right))
        made = follows.laying(BIG, prices)
        self.assertTrue(reckoning.is_lots(BIG, made))
        self.assertIs(follows.is_laying(BIG, prices, made), True)
        self.assertEqual(sum(n for _, n in made), follows.price_of(BIG, prices, tuple(right)))

    def test_prices(self):
        """A LAYING and a FOLLOWING of one sum: neither can be better."""
        for seed in range(6):
            prices = samples.rows_for(WIDE, seed, 10 ** 30 * (seed % 2), 5 + seed)
            row, made = follows.cheapest_following(WIDE, prices), follows.laying(WIDE, prices)
            self.assertIs(follows.is_following(WIDE, row), True)
            self.assertTrue(reckoning.is_lots(WIDE, made))
            for asker, goal in reckoning.arcs(WIDE):
                price = dict(zip(WIDE[asker], prices[asker]))[goal]
                self.assertLessEqual(sum(n for lot, n in made if asker in lot and goal not in lot), price)
            self.assertEqual(sum(n for _, n in made), reckoning.price_sum(WIDE, prices, row))
        free = samples.rows_for(WIDE, 0, 0, 1)
        self.assertEqual(follows.cheapest_following(WIDE, free), follows.nth_following(WIDE, 0))


if __name__ == "__main__":
    unittest.main()
