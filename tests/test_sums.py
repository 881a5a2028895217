"""Promise 9: SUMS and WISHES FOR ALL WEIGHTS, held against a plain reckoning over all FOLLOWINGS, and the guarantees."""

import unittest
from fractions import Fraction
from itertools import product

from tests import reckoning, samples
from tests.reckoning import pair
from tests.samples import BIG, LONG, MADE, MANY, SOUND, WIDE
from whomheeds import follows, sums, voices

SOME = list(enumerate(SOUND[::5] + MADE + [(7,), (7, -7), (5, (0, 2), (1,)), (3, 3, (0, 1, 3), (1, 2)),
                                           (0, 6, (0, 3), (1, 2), (2, 3))]))


def with_totals():
    return [(council, samples.total_for(council, seed + more)) for seed, council in SOME for more in (0, 1)] + [
        (council, (0,) * len(council)) for _, council in SOME[::9]]


def with_wishes():
    return [(council, samples.wish_for(council, seed + more)) for seed, council in SOME for more in (0, 1)]


def word_of(values, nothing):
    """How all that lies strictly between the least and the greatest, or just these, stands to 0."""
    low, high = min(values), max(values)
    if low == high:
        return "above" if low > 0 else "below" if low < 0 else nothing
    return "above" if low >= 0 else "below" if high <= 0 else "either"


def numbers_near(values):
    low, high = min(values), max(values)
    return sorted({low - 1, low, low + 1, high - 1, high, high + 1, 0, -10 ** 30, 10 ** 30})


class Sums(unittest.TestCase):

    def test_values(self):
        for council, total in with_totals():
            values = reckoning.sums(council, total)
            for row, value in zip(reckoning.followings(council), values):
                self.assertEqual(sums.value_at(council, row, total), value)
            self.assertEqual(sums.least_value(council, total), min(values))
            self.assertEqual(sums.greatest_value(council, total), max(values))
            self.assertEqual(sums.sign_of(council, total), word_of(values, "nothing"))
            turned = tuple(-n for n in total)
            self.assertEqual(sums.sign_of(council, turned), word_of([-n for n in values], "nothing"))

    def test_holds_and_against(self):
        for council, total in with_totals():
            rows, values = reckoning.followings(council), reckoning.sums(council, total)
            for number in numbers_near(values):
                right = [row for row, value in zip(rows, values) if value < number]
                self.assertIs(sums.holds(council, total, number), right == [])
                made = sums.against(council, total, number)
                self.assertEqual(made is None, right == [])
                if made is not None:
                    self.assertIn(made, right)
                for row in rows[:12]:
                    self.assertIs(sums.is_against(council, total, number, row), row in right)

    def test_weights_against(self):
        for council, total in with_totals():
            values = reckoning.sums(council, total)
            for number in numbers_near(values):
                made = sums.weights_against(council, total, number)
                # What is never below a number is not so by its least value alone either.
                self.assertEqual(made is None, min(values) >= number)
                if made is not None:
                    self.assertTrue(reckoning.is_weights(council, made))
                    self.assertLess(reckoning.value(council, made, total), number)
                    self.assertIs(sums.is_weights_against(council, total, number, made), True)

    def test_is_weights_against(self):
        for seed, council in SOME:
            weights, total = samples.weights_for(council, seed), samples.total_for(council, seed)
            value = reckoning.value(council, weights, total)
            floor = value.numerator // value.denominator
            for number in (floor - 1, floor, floor + 1):
                self.assertIs(sums.is_weights_against(council, total, number, weights), value < number)

    def test_weights_however_great(self):
        council, total = (0, 6, (0, 3), (1, 2)), (0, 0, 0, 1)
        weights = ((), (), (10 ** 900, 1), (1, 10 ** 900))
        self.assertIs(sums.is_weights_against(council, total, 1, weights), True)
        self.assertIs(sums.is_weights_against(council, total, 0, weights), False)

    def test_loud(self):
        for _, council in SOME:
            for row in reckoning.followings(council)[:5]:
                for number in (1, 2, 10 ** 30):
                    right = tuple(tuple(number if goal == row[k] else 1 for goal in reckoning.asks(council, k))
                                  for k in range(len(council)))
                    self.assertEqual(sums.loud(council, row, number), right)

    def test_beside(self):
        for _, council in SOME:
            told = [reckoning.ends(row) for row in reckoning.followings(council)]
            below = []
            for one, other in product(range(len(council)), repeat=2):
                gaps = [council[row[one]] - council[row[other]] for row in told]
                word = word_of(gaps, "alike")
                self.assertEqual(sums.beside(council, one, other), word)
                if word == "below":
                    below.append((one, other))
            self.assertEqual(sums.surely_below(council), below)

    def test_beside_of_voices(self):
        for seed, council in SOME:
            held = reckoning.voice(council, samples.weights_for(council, seed))
            for one, other in product(range(len(council)), repeat=2):
                word = sums.beside(council, one, other)
                told = "alike" if held[one] == held[other] else "above" if held[one] > held[other] else "below"
                self.assertIn(word, (told, "either"))


class Wishes(unittest.TestCase):

    def test_values(self):
        for council, wish in with_wishes():
            values = reckoning.wishes(council, wish)
            self.assertEqual(sums.least_wish(council, wish), min(values))
            self.assertEqual(sums.greatest_wish(council, wish), max(values))
            self.assertEqual(sums.sign_of_wish(council, wish), word_of(values, "nothing"))

    def test_against(self):
        for council, wish in with_wishes():
            rows, values = reckoning.followings(council), reckoning.wishes(council, wish)
            for number in numbers_near(values):
                right = [row for row, value in zip(rows, values) if value < number]
                made = sums.against_wish(council, wish, number)
                self.assertEqual(made is None, right == [])
                if made is not None:
                    self.assertIn(made, right)
                for row in rows[:12]:
                    self.assertIs(sums.is_against_wish(council, wish, number, row), row in right)

    def test_empty_and_alike_ones(self):
        council = (5, 6, (0, 1))
        self.assertEqual((sums.least_wish(council, ()), sums.sign_of_wish(council, ())), (0, "nothing"))
        self.assertEqual(sums.greatest_wish(council, ((2, 0, 3), (2, 0, 3), (2, 1, 1))), 6)
        self.assertEqual(sums.sign_of_wish(council, ((2, 0, 3), (2, 1, 0))), "above")
        self.assertEqual(sums.sign_of_wish(council, ((0, 0, -3), (0, 1, 7))), "below")
        self.assertEqual(sums.sign_of_wish(council, ((0, 1, 7),)), "nothing")

    def test_wish_of(self):
        for seed, council in SOME:
            total = samples.total_for(council, seed)
            reach = [{road[-1] for road in reckoning.firm_roads(council, k)} for k in range(len(council))]
            right = sorted((k, firm, total[k] * council[firm]) for k in range(len(council)) for firm in reach[k])
            made = sums.wish_of(council, total)
            self.assertEqual(made, tuple(triple for triple in right if triple[2] != 0))
            self.assertEqual(reckoning.wishes(council, made), reckoning.sums(council, total))
            weights = samples.weights_for(council, seed)
            self.assertEqual(voices.wish_at(council, weights, made), voices.sum_at(council, weights, total))


class Guarantees(unittest.TestCase):

    def test_the_middle(self):
        """Values by WEIGHTS lie strictly between those by ENDS, and come as near to both as one likes."""
        for seed, council in SOME:
            total = samples.total_for(council, seed)
            values = reckoning.sums(council, total)
            for more in range(3):
                value = reckoning.value(council, samples.weights_for(council, seed + more), total)
                self.assertTrue(reckoning.comes(values, value))
            low = sums.weights_against(council, total, min(values) + 1)
            self.assertLess(reckoning.value(council, low, total), min(values) + 1)
            much = tuple(n * 10 ** 9 for n in total)
            low = sums.weights_against(council, much, min(values) * 10 ** 9 + 1)
            self.assertLess(reckoning.value(council, low, total) - min(values), Fraction(1, 10 ** 9))

    def test_the_middle_of_wishes(self):
        for seed, council in SOME:
            wish = samples.wish_for(council, seed)
            values = reckoning.wishes(council, wish)
            for more in range(3):
                weights = samples.weights_for(council, seed + more)
                value = Fraction(*voices.wish_at(council, weights, wish))
                self.assertTrue(reckoning.comes(values, value))
            row = sums.against_wish(council, wish, min(values) + 1)
            loud = sums.loud(council, row, 10 ** 9)
            self.assertLess(Fraction(*voices.wish_at(council, loud, wish)), min(values) + 1)

    def test_loud_weights_go_against_what_the_following_does(self):
        for council, total in with_totals():
            for row, value in list(zip(reckoning.followings(council), reckoning.sums(council, total)))[:4]:
                shown = sums.loud(council, row, 10 ** 90)
                self.assertLess(reckoning.value(council, shown, total), value + 1)

    def test_what_holds_is_always_this_number_or_always_above_it(self):
        for seed, council in SOME:
            total = samples.total_for(council, seed)
            low = sums.least_value(council, total)
            self.assertIs(sums.holds(council, total, low), True)
            told = {voices.sum_at(council, samples.weights_for(council, seed + more), total) == (low, 1)
                    for more in range(4)}
            self.assertEqual(told, {sums.greatest_value(council, total) == low})


class Great(unittest.TestCase):

    def test_many(self):
        """16 MEMBERS, ten askers, near 2,000 FOLLOWINGS, numbers to 10 ** 30."""
        for council in (MANY, LONG):
            total = samples.total_for(council, 4)
            self.assertGreater(max(total), 10 ** 30)
            values = reckoning.sums(council, total)
            self.assertEqual(sums.least_value(council, total), min(values))
            self.assertEqual(sums.greatest_value(council, total), max(values))
            self.assertEqual(sums.sign_of(council, total), word_of(values, "nothing"))
            row = sums.against(council, total, min(values) + 1)
            self.assertEqual(sums.value_at(council, row, total), min(values))
            weights = sums.weights_against(council, total, min(values) + 1)
            self.assertLess(reckoning.value(council, weights, total), min(values) + 1)
            self.assertIs(sums.is_weights_against(council, total, min(values) + 1, weights), True)
            told = [reckoning.ends(row) for row in reckoning.followings(council)]
            below = [(one, other) for one, other in product(range(len(council)), repeat=2)
                     if word_of([council[row[one]] - council[row[other]] for row in told], "alike") == "below"]
            self.assertEqual(sums.surely_below(council), below)
            wish = samples.wish_for(council, 3)
            self.assertEqual(sums.least_wish(council, wish), min(reckoning.wishes(council, wish)))

    def test_followings_that_are_not_gone_through(self):
        """value_at, loud, wish_of and is_weights_against, with some millions of FOLLOWINGS."""
        for council in (BIG, WIDE):
            row, total = follows.nth_following(council, 1234567), samples.total_for(council, 9)
            right = sum(n * council[end] for n, end in zip(total, reckoning.ends(row)))
            self.assertEqual(sums.value_at(council, row, total), right)
            shown = sums.loud(council, row, 10 ** 30)
            self.assertEqual([max(rows, default=0) for rows in shown], [0] * 6 + [10 ** 30] * 10)
            value = reckoning.value(council, shown, total)
            for number in (value.numerator // value.denominator, value.numerator // value.denominator + 1):
                self.assertIs(sums.is_weights_against(council, total, number, shown), value < number)
            made = sums.wish_of(council, total)
            self.assertEqual(voices.wish_at(council, shown, made), pair(value))


if __name__ == "__main__":
    unittest.main()
