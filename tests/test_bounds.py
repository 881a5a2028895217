"""Promise 13: WEIGHTS within BOUNDS, held against a plain reckoning over all CORNERS, and the guarantees."""

import unittest
from fractions import Fraction
from math import prod

from tests import reckoning, samples
from tests.reckoning import pair
from tests.samples import BIG, LONG, MADE, SMALL, SOUND, WIDE
from whomheeds import bounds, voices
from whomheeds.errors import NoNumber

SOME = list(enumerate(SOUND[::11] + MADE[::3] + [(7,), (7, 7), (5, (0, 2), (1,)), (3, 3, (0, 1, 3), (1, 2)),
                                                 ((1, 2), (0, 3), 0, 12), (0, 6, (0, 3), (1, 2), (2, 3))]))


def bounds_for(council, seed, open_ones=6):
    """BOUNDS, at most so many pairs of unlike numbers among them."""
    roll, found = samples.rolls(seed), []
    for k in range(len(council)):
        row = []
        for _ in reckoning.asks(council, k):
            least, wide = 1 + next(roll) % 4, next(roll) % 4 if open_ones > 0 else 0
            open_ones -= wide > 0
            row.append((least, least + wide))
        found.append(tuple(row))
    return tuple(found)


def with_bounds():
    return [(council, bounds_for(council, seed + more)) for seed, council in SOME for more in (0, 1)]


def weights_in(told, seed):
    """WEIGHTS that fit these BOUNDS: inside of them, then multiplied."""
    roll, rows = samples.rolls(seed), []
    for row in told:
        much = 1 + next(roll) % 5
        rows.append(tuple((5 * least + next(roll) % (5 * (greatest - least) + 1)) * much for least, greatest in row))
    return tuple(rows)


VOICES = {}


def corner_voices(council, told):
    """Pairs of each CORNER and the VOICE by it."""
    if (council, told) not in VOICES:
        VOICES[council, told] = [(corner, reckoning.voice(council, corner)) for corner in reckoning.corners(told)]
    return VOICES[council, told]


def value(total, voice):
    return sum((n * part for n, part in zip(total, voice)), Fraction(0))


class Corners(unittest.TestCase):

    def test_corners(self):
        for council, told in with_bounds() + [(council, bounds_for(council, 3)) for council in SMALL[::40]]:
            right = reckoning.corners(told)
            self.assertIs(bounds.is_bounds(council, told), True)
            self.assertEqual(bounds.how_many_corners(council, told), len(right))
            for number, corner in enumerate(right):
                self.assertEqual(bounds.nth_corner(council, told, number), corner)
                self.assertIs(bounds.is_corner(council, told, corner), True)
                self.assertIs(bounds.fit_bounds(council, told, corner), True)
            for number in (-1, -len(right), len(right), 10 ** 30):
                with self.assertRaises(NoNumber) as caught:
                    bounds.nth_corner(council, told, number)
                self.assertEqual(caught.exception.number, number)

    def test_bounds_of_one_number_each(self):
        for seed, council in SOME:
            weights = samples.weights_for(council, seed)
            told = tuple(tuple((n, n) for n in row) for row in weights)
            self.assertEqual(bounds.how_many_corners(council, told), 1)
            self.assertEqual(bounds.nth_corner(council, told, 0), weights)
            voice = reckoning.told_voice(council, weights)
            self.assertEqual(bounds.highest_voice(council, told), voice)
            self.assertEqual(bounds.lowest_voice(council, told), voice)
            self.assertEqual(bounds.highest_corner(council, told), weights)

    def test_fit(self):
        for seed, (council, told) in enumerate(with_bounds()):
            rows = [samples.weights_for(council, seed + more) for more in range(4)] + [weights_in(told, seed)]
            for weights in rows:
                right = reckoning.fits(told, weights)
                self.assertIs(bounds.fit_bounds(council, told, weights), right)
                # So exactly if some fraction times each weight is within its pair.
                for pairs, row in zip(told, weights):
                    low = max([Fraction(least, n) for (least, _), n in zip(pairs, row)], default=0)
                    high = min([Fraction(greatest, n) for (_, greatest), n in zip(pairs, row)], default=0)
                    self.assertTrue(not right or low <= high)
            self.assertIs(bounds.fit_bounds(council, told, rows[-1]), True)

    def test_narrower(self):
        seen = []
        for seed, (council, told) in enumerate(with_bounds()):
            wider = tuple(tuple((max(1, least - 1), greatest + 1) for least, greatest in row) for row in told)
            twice = tuple(tuple((least * 2, greatest * 2) for least, greatest in row) for row in told)
            for other in (bounds_for(council, seed + 5), wider, told, twice):
                # What fits is what a row of each asker's CORNERS comes to when added up, each some times.
                right = all(reckoning.fits(other, corner) for corner in reckoning.corners(told))
                seen.append(right)
                self.assertIs(bounds.narrower(council, told, other), right)
            self.assertIs(bounds.narrower(council, told, wider) and bounds.narrower(council, twice, told), True)
        self.assertIn(False, seen)


class Voices(unittest.TestCase):

    def test_highest_and_lowest(self):
        for council, told in with_bounds():
            rows = corner_voices(council, told)
            high = tuple(max(column) for column in zip(*[voice for _, voice in rows]))
            low = tuple(min(column) for column in zip(*[voice for _, voice in rows]))
            self.assertEqual(bounds.highest_voice(council, told), tuple(map(pair, high)))
            self.assertEqual(bounds.lowest_voice(council, told), tuple(map(pair, low)))
            # The guarantee: there are CORNERS by which all at once hold the greatest, the least.
            highest = [corner for corner, voice in rows if voice == high]
            lowest = [corner for corner, voice in rows if voice == low]
            self.assertIn(bounds.highest_corner(council, told), highest)
            self.assertIn(bounds.lowest_corner(council, told), lowest)
            for corner, voice in rows:
                self.assertIs(bounds.is_highest(council, told, corner), voice == high)
                self.assertIs(bounds.is_lowest(council, told, corner), voice == low)
                self.check_kind(council, told, corner, voice, voice == high, voice == low)

    def check_kind(self, council, told, corner, voice, is_high, is_low):
        """The guarantee that tells such CORNERS by who holds more than the asker."""
        more, less = [], []
        for k in reckoning.askers(council):
            for goal, (least, greatest), number in zip(council[k], told[k], corner[k]):
                if voice[goal] != voice[k]:
                    above = voice[goal] > voice[k]
                    more.append(number == (greatest if above else least))
                    less.append(number == (least if above else greatest))
        self.assertIs(all(more), is_high)
        self.assertIs(all(less), is_low)

    def test_numbers_that_are_near(self):
        council, told = (0, 1, (0, 1)), ((), (), ((1, 2), (1, 2)))
        self.assertEqual(bounds.highest_corner(council, told), ((), (), (1, 2)))
        self.assertEqual(bounds.lowest_corner(council, told), ((), (), (2, 1)))
        self.assertEqual(bounds.highest_voice(council, told)[2], (2, 3))
        self.assertEqual(bounds.lowest_voice(council, told)[2], (1, 3))

    def test_may_hold_within(self):
        for council, told in with_bounds()[::2]:
            for member in range(len(council)):
                held = [voice[member] for _, voice in corner_voices(council, told)]
                for fraction in reckoning.near(held):
                    right = min(held) <= fraction <= max(held)
                    self.assertIs(bounds.may_hold_within(council, told, member, pair(fraction)), right)

    def test_weights_that_fit_hold_no_more(self):
        for seed, (council, told) in enumerate(with_bounds()):
            weights = weights_in(told, seed)
            voice = reckoning.voice(council, weights)
            for member, held in enumerate(voice):
                self.assertIs(bounds.may_hold_within(council, told, member, pair(held)), True)
            high = tuple(Fraction(*part) for part in bounds.highest_voice(council, told))
            self.assertIs(bounds.is_highest(council, told, weights), voice == high)
            much = tuple(tuple(n * 10 ** 40 for n in row) for row in bounds.highest_corner(council, told))
            self.assertIs(bounds.is_highest(council, told, much), True)


class Sums(unittest.TestCase):

    def cases(self):
        for seed, (council, told) in enumerate(with_bounds()):
            for total in (samples.total_for(council, seed), samples.total_for(council, seed + 1), (0,) * len(council)):
                yield council, told, total

    def test_within(self):
        for council, told, total in self.cases():
            rows = [(value(total, voice), corner) for corner, voice in corner_voices(council, told)]
            low, high = min(rows)[0], max(rows)[0]
            self.assertEqual(bounds.least_within(council, told, total), pair(low))
            self.assertEqual(bounds.greatest_within(council, told, total), pair(high))
            self.assertEqual(bounds.corner_of_least(council, told, total), min(c for v, c in rows if v == low))
            self.assertEqual(bounds.corner_of_greatest(council, told, total), min(c for v, c in rows if v == high))
            self.check_against(council, told, total, low)
            for fraction in {low, high, (low + high) / 2, (2 * low + high) / 3, low - 1, high + Fraction(1, 10 ** 9)}:
                self.check_weights(council, told, total, fraction, low <= fraction <= high)

    def check_against(self, council, told, total, low):
        made = bounds.against_within(council, told, total)
        self.assertEqual(made is None, low >= 0)
        if made is not None:
            self.assertTrue(reckoning.is_weights(council, made) and reckoning.fits(told, made))
            self.assertLess(reckoning.value(council, made, total), 0)
            self.assertIs(bounds.is_against_within(council, told, total, made), True)

    def check_weights(self, council, told, total, fraction, comes):
        made = bounds.weights_within(council, told, total, pair(fraction))
        self.assertEqual(made is None, not comes)
        if made is not None:
            self.assertTrue(reckoning.is_weights(council, made) and reckoning.fits(told, made))
            self.assertEqual(reckoning.value(council, made, total), fraction)
            self.assertIs(bounds.is_weights_within(council, told, total, pair(fraction), made), True)

    def test_values_of_weights_that_fit(self):
        for seed, (council, told, total) in enumerate(self.cases()):
            for weights in (weights_in(told, seed), samples.weights_for(council, seed)):
                fits = reckoning.fits(told, weights)
                found = reckoning.value(council, weights, total)
                if fits:
                    self.assertLessEqual(Fraction(*bounds.least_within(council, told, total)), found)
                    self.assertLessEqual(found, Fraction(*bounds.greatest_within(council, told, total)))
                self.assertIs(bounds.is_weights_within(council, told, total, pair(found), weights), fits)
                self.assertIs(bounds.is_weights_within(council, told, total, pair(found + 1), weights), False)
                self.assertIs(bounds.is_against_within(council, told, total, weights), fits and found < 0)


class Great(unittest.TestCase):

    def test_voices(self):
        """Millions of FOLLOWINGS and far more CORNERS, numbers to 10 ** 30."""
        for council in (BIG, WIDE, LONG):
            told = tuple(tuple((n, n * (10 ** 29 if k % 3 else 1)) for n in row)
                         for k, row in enumerate(samples.weights_for(council, 3)))
            many = prod(2 for k, row in enumerate(told) for _ in row if k % 3)
            self.assertEqual(bounds.how_many_corners(council, told), many)
            corner, low = bounds.highest_corner(council, told), bounds.lowest_corner(council, told)
            for made, name in ((corner, "highest"), (low, "lowest")):
                self.assertIs(bounds.is_corner(council, told, made), True)
                self.assertIs(getattr(bounds, f"is_{name}")(council, told, made), True)
                self.assertEqual(getattr(bounds, f"{name}_voice")(council, told), voices.voice_by(council, made))
                voice = reckoning.voice(council, made)
                for k in reckoning.askers(council):
                    for goal, (least, greatest), number in zip(council[k], told[k], made[k]):
                        if voice[goal] != voice[k]:
                            up = (voice[goal] > voice[k]) == (name == "highest")
                            self.assertEqual(number, greatest if up else least)
            last = tuple(tuple(greatest for _, greatest in row) for row in told)
            self.assertEqual(bounds.nth_corner(council, told, many - 1), last)
            self.assertEqual(bounds.nth_corner(council, told, 0), tuple(tuple(n for n, _ in row) for row in told))
            self.assertIs(bounds.may_hold_within(council, told, 8, voices.voice_by(council, corner)[8]), True)

    def test_fit(self):
        for council in (BIG, WIDE, LONG):
            told = bounds_for(council, 4, 50)
            wider = tuple(tuple((least, greatest * 10 ** 20) for least, greatest in row) for row in told)
            weights = weights_in(told, 5)
            much = tuple(tuple(n * 10 ** 28 for n in row) for row in weights)
            for rows in (weights, much):
                self.assertIs(bounds.fit_bounds(council, told, rows), True)
                self.assertIs(bounds.is_corner(council, told, rows), False)
            off = samples.rows_for(council, 3, 1, 10 ** 30)
            self.assertIs(bounds.fit_bounds(council, told, off), reckoning.fits(told, off))
            self.assertIs(bounds.narrower(council, told, wider), True)
            self.assertIs(bounds.narrower(council, wider, told), False)
            self.assertIs(bounds.is_bounds(council, wider), True)
            low, high = bounds.lowest_voice(council, told), bounds.highest_voice(council, told)
            for part, least, greatest in zip(reckoning.voice(council, weights), low, high):
                self.assertTrue(Fraction(*least) <= part <= Fraction(*greatest))

    def test_sums(self):
        """As many CORNERS as are let, on a COUNCIL at the bounds."""
        told = bounds_for(WIDE, 6, 8)
        self.assertEqual(bounds.how_many_corners(WIDE, told), 256)
        total = samples.total_for(WIDE, 4)
        rows = [(voices.sum_at(WIDE, corner, total), corner) for corner in reckoning.corners(told)]
        values = [Fraction(*part) for part, _ in rows]
        self.assertEqual(bounds.least_within(WIDE, told, total), pair(min(values)))
        self.assertEqual(bounds.corner_of_greatest(WIDE, told, total), rows[values.index(max(values))][1])
        middle = (min(values) + 2 * max(values)) / 3
        self.assertEqual(bounds.corner_of_least(WIDE, told, total), rows[values.index(min(values))][1])
        self.assertEqual(bounds.greatest_within(WIDE, told, total), pair(max(values)))
        against = bounds.against_within(WIDE, told, total)
        self.assertEqual(against, rows[values.index(min(values))][1] if min(values) < 0 else None)
        self.assertIs(bounds.is_against_within(WIDE, told, total, rows[0][1]), values[0] < 0)
        made = bounds.weights_within(WIDE, told, total, pair(middle))
        self.assertIs(bounds.is_weights_within(WIDE, told, total, pair(middle), made), True)
        self.assertEqual(reckoning.value(WIDE, made, total), middle)


if __name__ == "__main__":
    unittest.main()
