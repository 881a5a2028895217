"""Promise 5: WEIGHTS and VOICES, each function held against a plain reckoning, and the guarantees."""

import unittest
from fractions import Fraction
from math import gcd, lcm

from tests import reckoning, samples
from tests.reckoning import pair
from tests.samples import BIG, SOUND, WIDE
from whomheeds import councils, voices
from whomheeds.errors import Unfit

SOME = list(enumerate(SOUND[::2] + [(0, 12, (0, 3), (1, 2)), (5, (0, 2), (1,)), (3, 3, (0, 1, 3), (1, 2)), (7,)]))


def with_weights():
    return [(council, samples.weights_for(council, seed)) for seed, council in SOME]


def with_numbers(council, numbers):
    """The COUNCIL whose firm ones hold these numbers, by their place."""
    return tuple(numbers[k] if isinstance(part, int) else part for k, part in enumerate(council))


def total_for(council, seed):
    return tuple((seed * 5 + k * 3) % 7 - 3 for k in range(len(council)))


class Weights(unittest.TestCase):

    def test_equal_weights(self):
        for council in SOUND:
            right = tuple((1,) * len(reckoning.asks(council, k)) for k in range(len(council)))
            self.assertEqual(voices.equal_weights(council), right)

    def test_louder(self):
        for council, weights in with_weights():
            for asker in reckoning.askers(council):
                for number in (1, 2, 10 ** 30):
                    made = voices.louder(council, weights, asker, number)
                    right = tuple(tuple(n * number for n in row) if k == asker else row
                                  for k, row in enumerate(weights))
                    self.assertEqual(made, right)
                    self.assertEqual(voices.voice_by(council, made), voices.voice_by(council, weights))

    def test_with_weight(self):
        for council, weights in with_weights():
            for asker in reckoning.askers(council):
                for member in range(len(council)):
                    if member not in council[asker]:
                        with self.assertRaises(Unfit):
                            voices.with_weight(council, weights, asker, member, 77)
                        continue
                    made = voices.with_weight(council, weights, asker, member, 77)
                    right = tuple(77 if goal == member else n for goal, n in zip(council[asker], weights[asker]))
                    self.assertEqual(made, weights[:asker] + (right,) + weights[asker + 1:])

    def test_plain_weights(self):
        for council, weights in with_weights():
            great = tuple(tuple(n * (k + 6) for n in row) for k, row in enumerate(weights))
            for rows in (weights, great):
                right = tuple(tuple(n // gcd(*row) for n in row) for row in rows)
                self.assertEqual(voices.plain_weights(council, rows), right)
        self.assertEqual(voices.plain_weights((5, (0,)), ((), (10 ** 30,))), ((), (1,)))

    def test_whole_weights(self):
        for council, weights in with_weights():
            parts = tuple(tuple(pair(Fraction(n + 1, (n * 7 + place * 5) % 12 + 1)) for place, n in enumerate(row))
                          for row in weights)
            made = voices.whole_weights(council, parts)
            for row, told in zip(made, parts):
                ratios = {Fraction(n) / Fraction(*part) for n, part in zip(row, told)}
                self.assertLessEqual(len(ratios), 1)
                self.assertTrue(all(n > 0 for n in row))
                self.assertIn(gcd(*row), (0, 1))

    def test_whole_weights_of_great_fractions(self):
        council = (5, 6, (0, 1))
        one, other = (10 ** 30, 10 ** 30 - 1), (3, 10 ** 30 - 3)
        first, second = Fraction(*one), Fraction(*other)
        common = lcm(one[1], other[1])
        tops = (int(first * common), int(second * common))
        right = tuple(n // gcd(*tops) for n in tops)
        self.assertEqual(voices.whole_weights(council, ((), (), (one, other))), ((), (), right))
        self.assertEqual(voices.whole_weights(council, ((), (), ((4, 1), (6, 1)))), ((), (), (2, 3)))
        self.assertEqual(voices.whole_weights((5, (0,)), ((), ((9, 7),))), ((), (1,)))


class Voices(unittest.TestCase):

    def test_voice(self):
        for council, weights in with_weights():
            told = reckoning.told_voice(council, weights)
            self.assertEqual(voices.voice_by(council, weights), told)
            self.assertTrue(all(reckoning.is_fraction(part) for part in told))
            self.assertIs(voices.is_voice(council, weights, told), True)
            self.assertEqual(voices.off_means(council, weights, told), ())

    def test_means(self):
        for seed, (council, weights) in enumerate(with_weights()):
            voice = tuple(pair(Fraction((seed + k * 5) % 9 - 4, (seed * k) % 5 + 1)) for k in range(len(council)))
            off = []
            for k in range(len(council)):
                right = council[k]
                if k in reckoning.askers(council):
                    heard = [Fraction(*voice[goal]) * n for goal, n in zip(council[k], weights[k])]
                    right = sum(heard) / sum(weights[k])
                    self.assertEqual(voices.mean_of(council, weights, voice, k), pair(right))
                if Fraction(*voice[k]) != right:
                    off.append(k)
            self.assertEqual(voices.off_means(council, weights, voice), tuple(off))
            self.assertEqual(off == [], voice == reckoning.told_voice(council, weights))

    def test_off_means_finds_each_one_changed(self):
        for council, weights in with_weights():
            told = reckoning.told_voice(council, weights)
            for k in range(len(council)):
                changed = told[:k] + (pair(Fraction(*told[k]) + Fraction(1, 3)),) + told[k + 1:]
                self.assertIn(k, voices.off_means(council, weights, changed))
                self.assertIs(voices.is_voice(council, weights, changed), False)

    def test_shares(self):
        for council, weights in with_weights():
            for member in range(len(council)):
                told = [(0, 1)] * len(council)
                for firm in reckoning.firm_ones(council):
                    told[firm] = pair(reckoning.share(council, weights, member, firm))
                    self.assertEqual(voices.share(council, weights, member, firm), told[firm])
                self.assertEqual(voices.shares(council, weights, member), tuple(told))

    def test_sums(self):
        for seed, (council, weights) in enumerate(with_weights()):
            total = total_for(council, seed)
            value = sum(n * part for n, part in zip(total, reckoning.voice(council, weights)))
            self.assertEqual(voices.sum_at(council, weights, total), pair(Fraction(value)))

    def test_wishes(self):
        for seed, (council, weights) in enumerate(with_weights()):
            wish = [(member, firm, (member * 5 + firm + seed) % 7 - 3) for firm in reckoning.firm_ones(council)
                    for member in range(len(council))]
            wish = tuple(wish[::-1] + wish[::2])
            value = sum(n * reckoning.share(council, weights, member, firm) for member, firm, n in wish)
            self.assertEqual(voices.wish_at(council, weights, wish), pair(Fraction(value)))
            self.assertEqual(voices.wish_at(council, weights, ()), (0, 1))

    def test_edges(self):
        self.assertEqual(voices.voice_by((-4,), ((),)), ((-4, 1),))
        self.assertEqual(voices.total_weight((-4, 3), ((), ())), 1)
        self.assertEqual(voices.weight_to((-4, 3), ((), ()), 1, 1), 1)
        self.assertEqual(voices.weight_to((-4, 3), ((), ()), 1, 0), 0)
        self.assertEqual(voices.share((-4, 3), ((), ()), 0, 0), (1, 1))
        self.assertEqual(voices.equal_weights((-4,)), ((),))
        # Firm ones that hold the same: whoever hears them alone holds the same, in a ring, too.
        council = ((1, 2), (0, 3), 6, 6)
        self.assertEqual(voices.voice_by(council, ((9, 1), (2, 7), (), ())), ((6, 1),) * 4)
        self.assertEqual(voices.shares(council, ((1, 1), (1, 1), (), ()), 0), ((0, 1), (0, 1), (2, 3), (1, 3)))
        self.assertEqual(voices.voice_by((10 ** 30, -10 ** 30, (0, 1)), ((), (), (1, 10 ** 30)))[2],
                         pair(Fraction(10 ** 30 - 10 ** 60, 10 ** 30 + 1)))


class Guarantees(unittest.TestCase):

    def test_weights_are_sums_over_followings(self):
        for council, weights in with_weights():
            total = reckoning.total_weight(council, weights)
            self.assertEqual(voices.total_weight(council, weights), total)
            for member in range(len(council)):
                for firm in reckoning.firm_ones(council):
                    part = reckoning.weight_to(council, weights, member, firm)
                    self.assertEqual(voices.weight_to(council, weights, member, firm), part)
                    self.assertEqual(voices.share(council, weights, member, firm), pair(Fraction(part, total)))
                    self.assertEqual(part > 0, firm in reckoning.reached(council, member))

    def test_shares_add_up_to_one_and_make_the_voice(self):
        for council, weights in with_weights():
            voice = voices.voice_by(council, weights)
            for member in range(len(council)):
                told = [Fraction(*part) for part in voices.shares(council, weights, member)]
                self.assertEqual(sum(told), 1)
                held = sum(told[firm] * council[firm] for firm in reckoning.firm_ones(council))
                self.assertEqual(pair(held), voice[member])

    def test_same_shares(self):
        """Exactly if the same VOICE comes with each firm one in turn holding 1, so with all numbers."""
        seen = {True: 0, False: 0}
        for seed, council in SOME:
            weights = samples.weights_for(council, seed)
            others = [samples.weights_for(council, seed + 1), weights]
            others += [voices.louder(council, weights, asker, 3) for asker in reckoning.askers(council)]
            others += [voices.with_weight(council, weights, asker, goal, 50) for asker, goal in reckoning.arcs(council)]
            for other in others:
                alike = all(reckoning.voice(one_hot, weights) == reckoning.voice(one_hot, other) for one_hot in
                            (with_numbers(council, [int(k == firm) for k in range(len(council))])
                             for firm in reckoning.firm_ones(council)))
                self.assertIs(voices.same_shares(council, weights, other), alike)
                seen[alike] += 1
        self.assertTrue(min(seen.values()) > 50, seen)

    def test_same_shares_does_not_look_at_the_numbers_held(self):
        council = (6, 6, (0, 1))
        self.assertIs(voices.same_shares(council, ((), (), (1, 1)), ((), (), (1, 2))), False)
        self.assertEqual(voices.voice_by(council, ((), (), (1, 1))), voices.voice_by(council, ((), (), (1, 2))))
        # An arc that is dead may have any weight.
        council = (5, (0, 2), (1,))
        self.assertIs(voices.same_shares(council, ((), (1, 1), (1,)), ((), (2, 9), (4,))), True)


class Great(unittest.TestCase):
    """COUNCILS at the bounds, with WEIGHTS to 10 ** 30."""

    def test_voice(self):
        for council in (BIG, WIDE):
            weights = samples.rows_for(council, 3, 10 ** 30 - 900, 900)
            told = reckoning.told_voice(council, weights)
            self.assertEqual(voices.voice_by(council, weights), told)
            self.assertIs(voices.is_voice(council, weights, told), True)
            self.assertEqual(voices.off_means(council, weights, told), ())
            self.assertEqual(voices.share(council, weights, 15, 1), pair(reckoning.share(council, weights, 15, 1)))
            self.assertIs(voices.same_shares(council, weights, voices.louder(council, weights, 9, 7)), True)
            # In BIG each asker reaches but one firm MEMBER.
            turned = weights[:9] + (weights[9][::-1],) + weights[10:]
            self.assertIs(voices.same_shares(council, weights, turned), council is BIG)
            for member in councils.askers(council):
                self.assertEqual(voices.mean_of(council, weights, told, member), told[member])

    def test_total_weight(self):
        """Each block has 6 ** 4 FOLLOWINGS; with alike weights the total is that many products of ten."""
        weights = tuple((10 ** 30,) * len(row) for row in voices.equal_weights(BIG))
        self.assertEqual(voices.total_weight(BIG, weights), 6 ** 8 * 10 ** 300)
        self.assertEqual(voices.weight_to(BIG, weights, 8, 0), 6 ** 8 * 10 ** 300)
        self.assertEqual(voices.weight_to(BIG, weights, 8, 1), 0)

    def test_weights_to_add_up(self):
        weights = samples.rows_for(WIDE, 3, 10 ** 30 - 900, 900)
        total = voices.total_weight(WIDE, weights)
        for member in range(16):
            told = [voices.weight_to(WIDE, weights, member, firm) for firm in councils.firm_ones(WIDE)]
            self.assertEqual(sum(told), total)
        numbers = tuple(10 ** 30 - k for k in range(16))
        right = sum(n * part for n, part in zip(numbers, reckoning.voice(WIDE, weights)))
        self.assertEqual(voices.sum_at(WIDE, weights, numbers), pair(right))

    def test_sum_of_great_numbers(self):
        weights = samples.rows_for(BIG, 5, 1, 7)
        wish = tuple((member, firm, 10 ** 30 - member) for member in range(16) for firm in (0, 1))
        right = sum(n * reckoning.share(BIG, weights, member, firm) for member, firm, n in wish)
        self.assertEqual(voices.wish_at(BIG, weights, wish), pair(Fraction(right)))


if __name__ == "__main__":
    unittest.main()
