"""Promise 10: a number between, each function held against a plain reckoning, and the guarantees."""

import unittest
from fractions import Fraction
from math import gcd

from tests import reckoning, samples
from tests.reckoning import pair
from tests.samples import BIG, LONG, MADE, MANY, SOUND, WIDE
from whomheeds import between

SOME = list(enumerate(SOUND[::5] + MADE + [(7,), (7, -7), (5, (0, 2), (1,)), (3, 3, (0, 1, 3), (1, 2)),
                                           (0, 6, (0, 3), (1, 2), (2, 3))]))


def put(weights, asker, row):
    return weights[:asker] + (tuple(row),) + weights[asker + 1:]


def mixed(weights, asker, row, part):
    """As the document tells it, in Python's fractions."""
    told = [own * (1 - part) + other * part for own, other in zip(weights[asker], row)]
    common = 1
    for n in told:
        common = common * n.denominator // gcd(common, n.denominator)
    whole = [int(n * common) for n in told]
    return put(weights, asker, [n // gcd(*whole) for n in whole])


def cases():
    """COUNCIL, WEIGHTS, an asker, a row for it, a SUM."""
    for seed, council in SOME:
        weights, later = samples.weights_for(council, seed), samples.weights_for(council, seed + 1)
        for asker in reckoning.askers(council):
            yield council, weights, asker, later[asker], samples.total_for(council, seed)


PARTS = [Fraction(0), Fraction(1), Fraction(1, 2), Fraction(1, 3), Fraction(7, 9), Fraction(1, 10 ** 30)]


class Comes(unittest.TestCase):

    def test_comes(self):
        for seed, council in SOME:
            total = samples.total_for(council, seed)
            values = reckoning.sums(council, total)
            for fraction in reckoning.near(values):
                right = reckoning.comes(values, fraction)
                self.assertIs(between.comes(council, total, pair(fraction)), right)
                made = between.weights_for(council, total, pair(fraction))
                self.assertEqual(made is None, not right)
                if made is not None:
                    self.assertTrue(reckoning.is_weights(council, made))
                    self.assertEqual(reckoning.value(council, made, total), fraction)
                    self.assertIs(between.is_weights_for(council, total, pair(fraction), made), True)

    def test_is_weights_for(self):
        for seed, council in SOME:
            total = samples.total_for(council, seed)
            for more in range(3):
                weights = samples.weights_for(council, seed + more)
                value = reckoning.value(council, weights, total)
                self.assertIs(between.is_weights_for(council, total, pair(value), weights), True)
                self.assertIs(between.is_weights_for(council, total, pair(value + Fraction(1, 7)), weights), False)

    def test_weights_however_great(self):
        council, total = (0, 6, (0, 3), (1, 2)), (0, 0, 0, 1)
        weights = ((), (), (10 ** 900, 1), (1, 10 ** 900))
        value = reckoning.value(council, weights, total)
        self.assertIs(between.is_weights_for(council, total, pair(value), weights), True)
        self.assertIs(between.is_weights_for(council, total, (0, 1), weights), False)


class Mixed(unittest.TestCase):

    def test_set_row(self):
        for council, weights, asker, row, _ in cases():
            self.assertEqual(between.set_row(council, weights, asker, row), put(weights, asker, row))
            self.assertEqual(between.set_row(council, weights, asker, weights[asker]), weights)

    def test_mixed(self):
        for council, weights, asker, row, _ in cases():
            for part in PARTS:
                made = between.mixed(council, weights, asker, row, pair(part))
                self.assertEqual(made, mixed(weights, asker, row, part))

    def test_no_common_divisor_is_left_at_the_ends_either(self):
        council, weights = (0, 1, (0, 1), (0, 2)), ((), (), (4, 6), (3, 3))
        self.assertEqual(between.mixed(council, weights, 2, (9, 3), (0, 1)), ((), (), (2, 3), (3, 3)))
        self.assertEqual(between.mixed(council, weights, 2, (9, 3), (1, 1)), ((), (), (3, 1), (3, 3)))
        self.assertEqual(between.mixed(council, weights, 2, (12, 2), (1, 2)), ((), (), (2, 1), (3, 3)))


class Crossing(unittest.TestCase):

    def test_way_and_crossing(self):
        for council, weights, asker, row, total in cases():
            begun, ended = (reckoning.value(council, rows, total) for rows in (weights, put(weights, asker, row)))
            word = "same" if begun == ended else "up" if begun < ended else "down"
            self.assertEqual(between.way_of(council, weights, asker, row, total), word)
            self.assertEqual(between.crossing(council, weights, asker, row, total, pair(begun)), (0, 1))
            if begun != ended:
                self.assertEqual(between.crossing(council, weights, asker, row, total, pair(ended)), (1, 1))
            for more in (Fraction(1, 3), Fraction(99, 100)):
                self.check_crossing(council, weights, asker, row, total, begun + (ended - begun) * more, begun != ended)
            for fraction in (min(begun, ended) - 1, max(begun, ended) + Fraction(1, 9)):
                self.assertIsNone(between.crossing(council, weights, asker, row, total, pair(fraction)))

    def check_crossing(self, council, weights, asker, row, total, fraction, moves):
        part = Fraction(*between.crossing(council, weights, asker, row, total, pair(fraction)))
        self.assertTrue(0 < part < 1 if moves else part == 0)
        made = mixed(weights, asker, row, part)
        self.assertEqual(reckoning.value(council, made, total), fraction)

    def test_the_least_steps(self):
        """Values as near to one another, and to 0, as these numbers let them be."""
        council, total, even = (0, 1, (0, 1)), (0, 0, 1), ((), (), (1, 1))
        self.assertEqual(between.way_of(council, even, 2, (1, 2), total), "up")
        self.assertEqual(between.way_of(council, even, 2, (2, 1), total), "down")
        self.assertIsNone(between.crossing(council, even, 2, (2, 1), total, (0, 1)))
        self.assertIsNone(between.crossing(council, even, 2, (1, 2), total, (1, 1)))
        self.assertIsNone(between.step_at(council, even, ((), (), (2, 1)), total, (0, 1)))
        self.assertIsNone(between.step_at(council, even, ((), (), (1, 2)), total, (1, 1)))

    def test_the_value_always_goes_one_way(self):
        for council, weights, asker, row, total in list(cases())[::3]:
            values = [reckoning.value(council, mixed(weights, asker, row, Fraction(k, 6)), total) for k in range(7)]
            gaps = {(later > value) - (later < value) for value, later in zip(values, values[1:])}
            self.assertEqual(len(gaps), 1)
            word = {1: "up", -1: "down", 0: "same"}[gaps.pop()]
            self.assertEqual(between.way_of(council, weights, asker, row, total), word)


class Steps(unittest.TestCase):

    def steps(self, council, weights, later):
        found = [weights]
        for asker in reckoning.askers(council):
            found.append(put(found[-1], asker, later[asker]))
        return found

    def test_steps(self):
        for seed, council in SOME:
            weights, later = samples.weights_for(council, seed), samples.weights_for(council, seed + 1)
            made = between.steps_between(council, weights, later)
            self.assertEqual(made, self.steps(council, weights, later))
            self.assertEqual((made[0], made[-1]), (weights, later))

    def test_step_at_and_between(self):
        for seed, council in SOME:
            weights, later = samples.weights_for(council, seed), samples.weights_for(council, seed + 1)
            total = samples.total_for(council, seed)
            steps = self.steps(council, weights, later)
            values = [reckoning.value(council, step, total) for step in steps]
            told = set(values) | {(a + b) / 2 for a, b in zip(values, values[1:])}
            for fraction in told | {min(values) - 1, max(values) + 1}:
                self.check_step(council, steps, values, total, fraction)

    def check_step(self, council, steps, values, total, fraction):
        signs = [(value > fraction) - (value < fraction) for value in values]
        crossed = [k for k in range(1, len(signs)) if signs[0] != 0 and signs[k] != signs[0]]
        askers = reckoning.askers(council)
        arguments = (council, steps[0], steps[-1], total, pair(fraction))
        self.assertEqual(between.step_at(*arguments), askers[crossed[0] - 1] if crossed else None)
        made = between.between_weights(*arguments)
        if signs[0] == 0:
            self.assertEqual(made, steps[0])
        elif not crossed:
            self.assertIsNone(made)
        else:
            asker, ahead = askers[crossed[0] - 1], steps[crossed[0] - 1]
            part = Fraction(*between.crossing(council, ahead, asker, steps[-1][asker], total, pair(fraction)))
            self.assertEqual(made, mixed(ahead, asker, steps[-1][asker], part))
            self.assertEqual(reckoning.value(council, made, total), fraction)

    def test_weights_that_have_it_come_back_as_they_are(self):
        council, weights, later = (0, 6, (0, 1)), ((), (), (4, 4)), ((), (), (1, 9))
        self.assertEqual(between.between_weights(council, weights, later, (0, 0, 1), (3, 1)), weights)
        self.assertIsNone(between.step_at(council, weights, later, (0, 0, 1), (3, 1)))
        self.assertEqual(between.between_weights(council, weights, later, (0, 0, 1), (4, 1)), ((), (), (1, 2)))

    def test_a_step_that_comes_just_there(self):
        council, weights, later = (0, 6, (0, 1), (0, 1)), ((), (), (1, 1), (1, 1)), ((), (), (2, 4), (6, 3))
        self.assertEqual(between.step_at(council, weights, later, (0, 0, 1, 0), (4, 1)), 2)
        self.assertEqual(between.between_weights(council, weights, later, (0, 0, 1, 0), (4, 1)),
                         ((), (), (1, 2), (1, 1)))
        # There and back: the value of this SUM goes beyond 6 at the first step, and comes back to it at the second one.
        self.assertEqual(between.step_at(council, weights, later, (0, 0, 1, 1), (6, 1)), None)
        self.assertEqual(between.step_at(council, weights, later, (0, 0, 1, 1), (13, 2)), 2)

    def test_no_askers(self):
        self.assertEqual(between.steps_between((5, 6), ((), ()), ((), ())), [((), ())])
        self.assertIsNone(between.step_at((5, 6), ((), ()), ((), ()), (1, 1), (11, 1)))
        self.assertEqual(between.between_weights((5, 6), ((), ()), ((), ()), (1, 1), (11, 1)), ((), ()))
        self.assertIsNone(between.between_weights((5, 6), ((), ()), ((), ()), (1, 1), (12, 1)))
        self.assertIs(between.comes((5, 6), (1, 1), (11, 1)), True)
        self.assertEqual(between.weights_for((5, 6), (1, 1), (11, 1)), ((), ()))
        self.assertIsNone(between.weights_for((5, 6), (1, 1), (23, 2)))


class Great(unittest.TestCase):

    def test_comes(self):
        for council in (MANY, LONG):
            total = samples.total_for(council, 4)
            values = reckoning.sums(council, total)
            low, high = min(values), max(values)
            for top, bottom in ((1, 2), (1, 10 ** 30), (10 ** 30 - 1, 10 ** 30)):
                fraction = low + (high - low) * Fraction(top, bottom)
                self.assertIs(between.comes(council, total, pair(fraction)), True)
                made = between.weights_for(council, total, pair(fraction))
                self.assertEqual(reckoning.value(council, made, total), fraction)
                self.assertIs(between.is_weights_for(council, total, pair(fraction), made), True)
            self.assertIs(between.comes(council, total, (low, 1)), False)
            self.assertIsNone(between.weights_for(council, total, (high, 1)))

    def test_steps(self):
        """Some millions of FOLLOWINGS, WEIGHTS to 10 ** 30."""
        for council in (BIG, WIDE):
            weights, later = samples.rows_for(council, 3, 10 ** 30 - 900, 900), samples.weights_for(council, 4)
            total = samples.total_for(council, 9)
            steps = between.steps_between(council, weights, later)
            self.assertEqual(len(steps), 11)
            values = [reckoning.value(council, step, total) for step in steps]
            fraction = (values[0] + values[-1]) / 2
            asker = between.step_at(council, weights, later, total, pair(fraction))
            if council is BIG:
                # Each asker reaches one firm one alone: nothing moves.
                self.assertEqual((set(values), asker), ({fraction}, None))
                asker = 12
            self.assertIn(asker, range(6, 16))
            made = between.between_weights(council, weights, later, total, pair(fraction))
            self.assertEqual(reckoning.value(council, made, total), fraction)
            self.assertIs(between.is_weights_for(council, total, pair(fraction), made), True)
            row, part = later[asker], (10 ** 29, 10 ** 30 - 1)
            self.assertEqual(between.mixed(council, weights, asker, row, part), mixed(weights, asker, row, Fraction(*part)))
            self.assertEqual(between.set_row(council, weights, asker, row), put(weights, asker, row))
            begun, ended = values[0], reckoning.value(council, put(weights, asker, row), total)
            word = "same" if begun == ended else "up" if begun < ended else "down"
            self.assertEqual(between.way_of(council, weights, asker, row, total), word)
            middle = (begun + ended) / 2
            part = between.crossing(council, weights, asker, row, total, pair(middle))
            self.assertEqual(reckoning.value(council, mixed(weights, asker, row, Fraction(*part)), total), middle)


if __name__ == "__main__":
    unittest.main()
