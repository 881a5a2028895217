"""Promise 7: one asker, each function held against a plain reckoning over all FOLLOWINGS, and the guarantees."""

import unittest
from fractions import Fraction

from tests import reckoning, samples
from tests.reckoning import pair
from tests.samples import BIG, LONG, MADE, MANY, SOUND, WIDE
from whomheeds import between, follows, ranges, voices
from whomheeds.errors import Unfit

SOME = SOUND[::5] + MADE + [(7,), (7, 7), (5, (0, 2), (1,)), (3, 3, (0, 1, 3), (1, 2)), (0, 6, (0, 3), (1, 2), (2, 3))]
GREAT = (BIG, WIDE, LONG, MANY)


def numbers_of(council, member):
    """What the MEMBER holds by the ENDS of all FOLLOWINGS."""
    return [council[reckoning.end_of(row, member)] for row in reckoning.followings(council)]


class Held(unittest.TestCase):

    def test_ends(self):
        for council in SOME:
            told = reckoning.followings(council)
            for member in range(len(council)):
                right = tuple(sorted({reckoning.end_of(row, member) for row in told}))
                self.assertEqual(ranges.ends_at(council, member), right)
                numbers = [council[firm] for firm in right]
                self.assertEqual(ranges.least_held(council, member), min(numbers))
                self.assertEqual(ranges.greatest_held(council, member), max(numbers))

    def test_of_firm_ones(self):
        self.assertEqual(ranges.ends_at((7, 7, (0, 1)), 0), (0,))
        self.assertEqual(ranges.ends_at((7,), 0), (0,))
        self.assertEqual((ranges.least_held((7, -9), 1), ranges.greatest_held((7, -9), 1)), (-9, -9))
        self.assertIs(ranges.can_hold((7,), 0, (7, 1)), True)
        self.assertIs(ranges.can_hold((7,), 0, (8, 1)), False)

    def test_can_hold(self):
        for council in SOME:
            for member in range(len(council)):
                numbers = numbers_of(council, member)
                for fraction in reckoning.near(numbers):
                    self.assertIs(ranges.can_hold(council, member, pair(fraction)), reckoning.comes(numbers, fraction))

    def test_always(self):
        for council in SOME:
            for member in range(len(council)):
                numbers = numbers_of(council, member)
                low, high = min(numbers), max(numbers)
                for number in {low - 1, low, low + 1, high - 1, high, high + 1, -10 ** 30, 10 ** 30, 0}:
                    above = low > number or (low == number and high > low)
                    self.assertIs(ranges.always_above(council, member, number), above)
                    self.assertIs(ranges.always_from(council, member, number), low >= number)

    def test_what_voices_hold_is_told(self):
        for seed, council in enumerate(SOME):
            told = reckoning.voice(council, samples.weights_for(council, seed))
            for member, held in enumerate(told):
                self.assertIs(ranges.can_hold(council, member, pair(held)), True)
                for number in (-5, -4, 0, 1, 6, 7):
                    if ranges.always_above(council, member, number):
                        self.assertGreater(held, number)
                    if ranges.always_from(council, member, number):
                        self.assertGreaterEqual(held, number)

    def test_low_weights(self):
        for council in SOME:
            for member in range(len(council)):
                numbers = numbers_of(council, member)
                for number in {min(numbers) - 1, min(numbers), min(numbers) + 1, max(numbers), max(numbers) + 5, 0}:
                    made = ranges.low_weights(council, member, number)
                    self.assertEqual(made is None, ranges.always_above(council, member, number))
                    if made is not None:
                        self.assertTrue(reckoning.is_weights(council, made))
                        self.assertLessEqual(reckoning.voice(council, made)[member], number)
                        self.assertIs(ranges.is_low(council, member, number, made), True)

    def test_is_low(self):
        for seed, council in enumerate(SOME):
            weights = samples.weights_for(council, seed)
            told = reckoning.voice(council, weights)
            for member, held in enumerate(told):
                floor = held.numerator // held.denominator
                for number in (floor - 1, floor, floor + 1):
                    self.assertIs(ranges.is_low(council, member, number, weights), held <= number)


class Best(unittest.TestCase):

    def test_best_following(self):
        """The guarantee: one FOLLOWING by which all at once end at the greatest number, one with the least."""
        for council in SOME:
            told = reckoning.followings(council)
            for word, choose in (("least", min), ("greatest", max)):
                best = [choose(numbers_of(council, member)) for member in range(len(council))]
                made = ranges.best_following(council, word)
                self.assertIn(made, told)
                self.assertEqual([council[end] for end in reckoning.ends(made)], best)
                for row in told:
                    right = [council[end] for end in reckoning.ends(row)] == best
                    self.assertIs(ranges.is_best(council, word, row), right)

    def test_plain_value(self):
        for seed, council in enumerate(SOME):
            total = samples.total_for(council, seed)
            plain = tuple(n if isinstance(part, int) else abs(n) for n, part in zip(total, council))
            for told in (plain, tuple(0 for _ in council)):
                values = reckoning.sums(council, told)
                self.assertEqual(ranges.plain_value(council, "least", told), min(values))
                self.assertEqual(ranges.plain_value(council, "greatest", told), max(values))
            if any(total[k] < 0 for k in reckoning.askers(council)):
                with self.assertRaises(Unfit):
                    ranges.plain_value(council, "least", total)
            else:
                self.assertEqual(ranges.plain_value(council, "least", total), min(reckoning.sums(council, total)))

    def test_numbers_below_0_at_firm_ones_are_let(self):
        self.assertEqual(ranges.plain_value((5, 6, (0, 1)), "greatest", (-3, -4, 2)), -15 - 24 + 12)
        self.assertEqual(ranges.plain_value((5, 6, (0, 1)), "least", (-3, -4, 0)), -39)
        self.assertEqual(ranges.plain_value((5,), "least", (-1,)), -5)


class Great(unittest.TestCase):
    """COUNCILS at the bounds, most with more than a million FOLLOWINGS."""

    def test_held(self):
        self.assertEqual(ranges.ends_at(WIDE, 7), (0, 1, 2, 3, 4, 5))
        self.assertEqual((ranges.least_held(WIDE, 9), ranges.greatest_held(WIDE, 9)), (-10 ** 30, 10 ** 30))
        self.assertEqual(ranges.ends_at(BIG, 12), (1,))
        self.assertIs(ranges.can_hold(WIDE, 6, (10 ** 30 - 1, 1)), True)
        self.assertIs(ranges.can_hold(WIDE, 6, (10 ** 30, 10 ** 30 - 1)), True)
        self.assertIs(ranges.can_hold(WIDE, 6, (10 ** 30, 1)), False)
        self.assertIs(ranges.can_hold(BIG, 6, (5, 1)), True)
        self.assertIs(ranges.always_above(WIDE, 6, -10 ** 30), True)
        self.assertIs(ranges.always_above(WIDE, 6, 1 - 10 ** 30), False)
        self.assertIs(ranges.always_from(BIG, 6, 5), True)

    def test_low_weights(self):
        for council in GREAT:
            for member in (0, 6, len(council) - 1):
                low, high = ranges.least_held(council, member), ranges.greatest_held(council, member)
                for number in (low - 1, low, low + 1, high):
                    made = ranges.low_weights(council, member, number)
                    self.assertEqual(made is None, ranges.always_above(council, member, number))
                    if made is not None:
                        self.assertTrue(reckoning.is_weights(council, made))
                        self.assertLessEqual(reckoning.voice(council, made)[member], number)

    def test_is_low(self):
        for council in GREAT:
            weights = samples.rows_for(council, 3, 10 ** 30 - 900, 900)
            held = reckoning.voice(council, weights)
            for member in (0, 7, len(council) - 1):
                floor = held[member].numerator // held[member].denominator
                for number in (floor - 1, floor, floor + 1):
                    self.assertIs(ranges.is_low(council, member, number, weights), held[member] <= number)

    def test_weights_however_great(self):
        council = (0, 6, (0, 3), (1, 2))
        weights = ((), (), (10 ** 900, 1), (1, 10 ** 900))
        self.assertIs(ranges.is_low(council, 3, 1, weights), True)
        self.assertIs(ranges.is_low(council, 3, 0, weights), False)
        self.assertIs(ranges.is_low(council, 3, 1, ((), (), (10 ** 900, 1), (10 ** 900, 1))), False)

    def test_best(self):
        for council in GREAT:
            for word, told in (("least", ranges.least_held), ("greatest", ranges.greatest_held)):
                made = ranges.best_following(council, word)
                self.assertIs(follows.is_following(council, made), True)
                best = [told(council, member) for member in range(len(council))]
                self.assertEqual([council[end] for end in reckoning.ends(made)], best)
                self.assertIs(ranges.is_best(council, word, made), True)
                self.assertEqual(ranges.plain_value(council, word, (10 ** 30,) * len(council)), 10 ** 30 * sum(best))
        self.assertIs(ranges.is_best(WIDE, "least", ranges.best_following(WIDE, "greatest")), False)


class Guarantees(unittest.TestCase):

    def test_each_fraction_between_is_held(self):
        """What can be held is held by WEIGHTS that another module tells."""
        for council in SOME[::4]:
            for member in range(len(council)):
                alone = tuple(int(k == member) for k in range(len(council)))
                low, high = ranges.least_held(council, member), ranges.greatest_held(council, member)
                for top, bottom in ((1, 2), (1, 10 ** 9), (10 ** 9 - 1, 10 ** 9)):
                    fraction = low + (high - low) * Fraction(top, bottom)
                    self.assertIs(ranges.can_hold(council, member, pair(fraction)), True)
                    weights = between.weights_for(council, alone, pair(fraction))
                    self.assertEqual(reckoning.voice(council, weights)[member], fraction)
                    self.assertEqual(voices.voice_by(council, weights)[member], pair(fraction))


if __name__ == "__main__":
    unittest.main()
