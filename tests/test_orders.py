"""Promise 11: voices told whole and ORDERS, each function held against a plain reckoning, and the guarantees."""

import unittest
from fractions import Fraction
from itertools import product

from tests import reckoning, samples
from tests.reckoning import pair
from tests.samples import BIG, LONG, MADE, MANY, SOUND, WIDE
from whomheeds import orders, sums, voices

SOME = SOUND[::7] + MADE[::2] + [(7,), (7, -7), (5, (0, 2), (1,)), (3, 3, (0, 1, 3), (1, 2)), ((1, 3), (0, 2), 0, 6),
                                 ((1,), (2, 3), 0, 4), ((1, 2, 3), 0, 6, (1, 2)), (4, (0,), (1,))]


def few_unlike(council):
    """Whether the bounds of all_orders hold, and the plain reckoning is not too long."""
    numbers = {council[k] for k in reckoning.firm_ones(council)}
    return len(numbers) <= 3 and len(reckoning.askers(council)) <= 3


ORDERED = [council for council in SOUND[::9] + MADE + SOME[-8:] if few_unlike(council)]
ORDERED.append((0, 3, 9, (0, 1, 2), (0, 2, 5), (1, 2, 4)))


def tops_for(council):
    """Numbers that askers may hold: those of firm ones, some between and beyond."""
    numbers = sorted({council[k] for k in reckoning.firm_ones(council)})
    told = {Fraction(part) for part in numbers} | {Fraction(numbers[0] - 1), numbers[-1] + Fraction(1, 3)}
    return sorted(told | {Fraction(a + b, 2) for a, b in zip(numbers, numbers[1:])} | {numbers[0] + Fraction(2, 5)})


def voices_for(council, seed):
    """Tuples by which firm ones hold their numbers: the VOICE by some WEIGHTS, and others, many of them misfits."""
    roll, tops = samples.rolls(seed), tops_for(council)
    found = [reckoning.voice(council, samples.weights_for(council, seed))]
    for _ in range(12):
        found.append(tuple(Fraction(part) if isinstance(part, int) else tops[next(roll) % len(tops)] for part in council))
    # One asker off, the others as by the first one.
    for asker in reckoning.askers(council):
        found.append(found[0][:asker] + (tops[next(roll) % len(tops)],) + found[0][asker + 1:])
    return found


def with_voices():
    return [(council, told, tuple(pair(part) for part in told))
            for seed, council in enumerate(SOME) for told in voices_for(council, seed)]


class Voices(unittest.TestCase):

    def test_misfits(self):
        seen = set()
        for council, told, voice in with_voices():
            right = reckoning.misfits(council, told)
            seen.add(len(right))
            self.assertEqual(orders.misfits(council, voice), right)
            self.assertIs(orders.can_be_voice(council, voice), right == ())
        self.assertTrue({0, 1, 2} <= seen)

    def test_weights_of_voice(self):
        for council, told, voice in with_voices():
            made = orders.weights_of_voice(council, voice)
            self.assertEqual(made is None, reckoning.misfits(council, told) != ())
            if made is not None:
                self.assertTrue(reckoning.is_weights(council, made))
                self.assertEqual(reckoning.voice(council, made), told)
                self.assertIs(orders.is_weights_of(council, voice, made), True)

    def test_is_weights_of(self):
        for seed, council in enumerate(SOME):
            weights = samples.weights_for(council, seed)
            right = reckoning.voice(council, weights)
            for told in voices_for(council, seed):
                voice = tuple(pair(part) for part in told)
                self.assertIs(orders.is_weights_of(council, voice, weights), told == right)

    def test_order_of(self):
        for council, told, voice in with_voices():
            made = orders.order_of(council, voice)
            self.assertEqual(made, reckoning.order_by(told))
            self.assertIs(orders.is_order(council, made), True)

    def test_may_hold(self):
        for council, told, voice in with_voices():
            mended = []
            for asker in reckoning.askers(council):
                made = orders.may_hold(council, voice, asker)
                if made is not None:
                    mended.append(asker)
                    self.assertTrue(all(reckoning.is_fraction(part) for part in made))
                self.check_room(council, told, asker, made)
            self.assertEqual(orders.mended_by(council, voice), tuple(mended))

    def check_room(self, council, told, asker, made):
        """All that may matter is tried: what others hold, what lies between two of these, and beyond."""
        tops = sorted(set(told) | {Fraction(*part) for part in made or ()})
        tried = tops + [(a + b) / 2 for a, b in zip(tops, tops[1:])] + [tops[0] - 1, tops[-1] + 1]
        for part in tried:
            fits = reckoning.misfits(council, told[:asker] + (part,) + told[asker + 1:]) == ()
            if made is None:
                right = False
            else:
                low, high = Fraction(*made[0]), Fraction(*made[1])
                self.assertLessEqual(low, high)
                right = low < part < high or low == part == high
            self.assertIs(fits, right, (council, told, asker, made, part))

    def test_one_that_has_to_hold_what_others_hold(self):
        """1 asks 0 and 4, and holds what 4 holds: so 0 must, too."""
        council = ((2, 3), (0, 4), 0, 9, 4)
        for held in ((1, 1), (4, 1), (9, 1), (7, 3)):
            voice = (held, (4, 1), (0, 1), (9, 1), (4, 1))
            self.assertEqual(orders.may_hold(council, voice, 0), ((4, 1), (4, 1)))
            # 9 is none that 0 may hold, whatever 1 holds.
            self.assertEqual(orders.mended_by(council, voice), (0,) if held == (9, 1) else (0, 1))
        low, high = ((1, 1), (3, 1), (0, 1), (9, 1), (4, 1)), ((5, 1), (5, 1), (0, 1), (9, 1), (4, 1))
        self.assertEqual(orders.may_hold(council, low, 0), ((0, 1), (3, 1)))
        self.assertEqual(orders.may_hold(council, high, 0), ((5, 1), (9, 1)))
        # 0 must hold more than 1 and less than 2.
        council = ((3, 4), (0, 3), (0, 4), 0, 9)
        self.assertIsNone(orders.may_hold(council, ((5, 1), (6, 1), (5, 1), (0, 1), (9, 1)), 0))
        self.assertEqual(orders.may_hold(council, ((1, 1), (3, 1), (4, 1), (0, 1), (9, 1)), 0), ((3, 1), (4, 1)))
        self.assertEqual(orders.may_hold(council, ((1, 1), (2, 1), (4, 1), (0, 1), (9, 1)), 0), ((2, 1), (4, 1)))
        self.assertIsNone(orders.may_hold(council, ((1, 1), (4, 1), (4, 1), (0, 1), (9, 1)), 0))

    def test_all_askers_are_mended_where_there_is_no_misfit(self):
        for council, told, voice in with_voices():
            if reckoning.misfits(council, told) == ():
                self.assertEqual(orders.mended_by(council, voice), reckoning.askers(council))


class Orders(unittest.TestCase):

    def test_all_orders(self):
        seen = 0
        for council in ORDERED:
            right = reckoning.all_orders(council)
            seen = max(seen, len(right))
            self.assertEqual(orders.all_orders(council), right)
            self.assertTrue(all(orders.is_let(council, order) for order in right))
        self.assertGreater(seen, 20)

    def test_is_order_and_is_let(self):
        for council in [council for council in ORDERED if len(council) <= 4] + ORDERED[-4:]:
            let = reckoning.all_orders(council)
            for row in product(range(len(council)), repeat=len(council)):
                order = reckoning.order_by(row)
                right = reckoning.is_order(council, order)
                self.assertIs(orders.is_order(council, order), right)
                if right:
                    self.assertIs(orders.is_let(council, order), order in let)
                    self.assertIs(reckoning.is_let(council, order), order in let)
                    self.assertEqual(orders.voice_with(council, order) is None, order not in let)

    def test_voice_with(self):
        """The guarantee: the ORDERS of the VOICES are just the let ones."""
        for council in ORDERED:
            for order in orders.all_orders(council):
                made = orders.voice_with(council, order)
                self.assertTrue(all(reckoning.is_fraction(part) for part in made))
                told = tuple(Fraction(*part) for part in made)
                self.assertEqual([told[k] for k in reckoning.firm_ones(council)],
                                 [council[k] for k in reckoning.firm_ones(council)])
                self.assertEqual(reckoning.misfits(council, told), ())
                self.assertEqual(reckoning.order_by(told), order)
                self.assertIs(orders.is_voice_with(council, order, made), True)
                weights = orders.weights_of_voice(council, made)
                self.assertEqual(reckoning.voice(council, weights), told)

    def test_orders_of_voices_are_let(self):
        for council in ORDERED:
            let = orders.all_orders(council)
            for seed in range(4):
                voice = voices.voice_by(council, samples.weights_for(council, seed))
                self.assertIn(orders.order_of(council, voice), let)

    def test_how_they_stand(self):
        for council in ORDERED:
            places = [reckoning.ranks(order) for order in reckoning.all_orders(council)]
            for one, other in product(range(len(council)), repeat=2):
                words = {"above" if place[one] > place[other] else "below" if place[one] < place[other] else "alike"
                         for place in places}
                self.assertEqual(orders.how_they_stand(council, one, other), tuple(sorted(words)))

    def test_is_voice_with_wants_the_order(self):
        council, order = ((1, 2, 3), 0, 6, (1, 2)), ((1,), (0,), (3,), (2,))
        self.assertIs(orders.is_voice_with(council, order, ((1, 1), (0, 1), (6, 1), (2, 1))), True)
        for thing in (((2, 1), (0, 1), (6, 1), (1, 1)), ((1, 1), (0, 1), (6, 1), (1, 1)), ((1, 1), (0, 1), (7, 1), (2, 1)),
                      ((2, 2), (0, 1), (6, 1), (2, 1)), ((1, 1), (0, 1), (6, 1)), ((1, 1), (0, 1), (6, 1), (6, 1))):
            self.assertIs(orders.is_voice_with(council, order, thing), False, thing)
        self.assertIs(orders.is_voice_with(council, ((1,), (3,), (2,), (0,)), ((7, 1), (0, 1), (6, 1), (2, 1))), False)

    def test_no_askers_and_one_member(self):
        self.assertEqual(orders.all_orders((7,)), [((0,),)])
        self.assertEqual(orders.all_orders((7, 3, 7)), [((1,), (0, 2))])
        self.assertEqual(orders.mended_by((7,), ((7, 1),)), ())
        self.assertEqual(orders.weights_of_voice((7,), ((7, 1),)), ((),))
        self.assertEqual(orders.voice_with((7, 3), ((1,), (0,))), ((7, 1), (3, 1)))
        self.assertEqual(orders.how_they_stand((7, 3), 0, 1), ("above",))


class Great(unittest.TestCase):

    def test_voices(self):
        for council in (BIG, WIDE, LONG, MANY):
            voice = voices.voice_by(council, samples.rows_for(council, 3, 10 ** 30 - 900, 900))
            told = tuple(Fraction(*part) for part in voice)
            self.assertEqual(orders.misfits(council, voice), ())
            made = orders.weights_of_voice(council, voice)
            self.assertEqual(reckoning.voice(council, made), told)
            self.assertIs(orders.is_weights_of(council, voice, made), True)
            order = orders.order_of(council, voice)
            self.assertIs(orders.is_order(council, order), True)
            self.assertIs(orders.is_let(council, order), True)
            again = orders.voice_with(council, order)
            self.assertIs(orders.is_voice_with(council, order, again), True)
            self.assertEqual(reckoning.misfits(council, tuple(Fraction(*part) for part in again)), ())
            self.assertEqual(orders.mended_by(council, voice), reckoning.askers(council))
            asker = reckoning.askers(council)[3]
            low, high = orders.may_hold(council, voice, asker)
            self.assertTrue(Fraction(*low) < told[asker] < Fraction(*high) or low == high == voice[asker])

    def test_misfits(self):
        voice = tuple((part, 1) if isinstance(part, int) else (10 ** 31, 7) for part in WIDE)
        told = tuple(Fraction(*part) for part in voice)
        self.assertEqual(orders.misfits(WIDE, voice), reckoning.misfits(WIDE, told))
        self.assertIsNone(orders.weights_of_voice(WIDE, voice))
        self.assertEqual(orders.mended_by(WIDE, voice), ())

    def test_five_askers(self):
        """As many ORDERS as there are ways to order five askers beside one number: Fubini's number of six."""
        council = (0, 5, 9, 9, 5) + ((0, 1, 2),) * 5
        made = orders.all_orders(council)
        self.assertEqual(len(made), 4683)
        self.assertEqual(made, sorted(set(made)))
        self.assertTrue(all(reckoning.is_order(council, order) and reckoning.is_let(council, order) for order in made))
        self.assertEqual(orders.how_they_stand(council, 5, 9), ("above", "alike", "below"))
        self.assertEqual(orders.how_they_stand(council, 5, 3), ("below",))
        ring = (-3, 4, 10 ** 30) + tuple(tuple(sorted({k % 3, (k + 1) % 5 + 3, (k + 3) % 5 + 3})) for k in range(5))
        places = [reckoning.ranks(order) for order in orders.all_orders(ring)]
        for one, other in product(range(8), repeat=2):
            words = {"above" if place[one] > place[other] else "below" if place[one] < place[other] else "alike"
                     for place in places}
            self.assertEqual(orders.how_they_stand(ring, one, other), tuple(sorted(words)))
            self.assertIn(sums.beside(ring, one, other), words | {"either"})


if __name__ == "__main__":
    unittest.main()
