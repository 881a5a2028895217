"""Promise 18: rounds of talk, held against a plain reckoning over all rows of arcs, and the guarantees."""

import unittest
from fractions import Fraction
from itertools import product

from tests import reckoning, samples
from tests.reckoning import pair
from tests.samples import BIG, LONG, MADE, SMALL, SOUND, WIDE
from whomheeds import rounds, sums, voices

# Sound or not: farthest alone wants a sound one.
SOME = list(enumerate(SMALL[::13] + MADE[::3] + [(7,), (7, 7), (5, (0, 2), (1,)), (3, 3, (0, 1, 3), (1, 2)), ((1,), (0,)),
                                                 ((1, 2), (0, 3), 0, 12), ((1,), (2, 3), 0, 12), ((1,), (2,), (0,), 5)]))


def begun_for(council, seed):
    roll = samples.rolls(seed)
    return tuple(part if isinstance(part, int) else next(roll) % 9 - 4 for part in council)


def talk_round(council, weights, held):
    """One round, in Python's Fractions."""
    return [held[k] if isinstance(part, int) else
            sum(held[goal] * weight for goal, weight in zip(part, weights[k])) / sum(weights[k])
            for k, part in enumerate(council)]


def after(council, begun, talk):
    held = [Fraction(number) for number in begun]
    for weights in talk:
        held = talk_round(council, weights, held)
    return held


def talk_for(council, seed, many):
    return tuple(samples.weights_for(council, seed + k) for k in range(many))


def come_to(council, start, many):
    """To whom rows of so many arcs, or of fewer to a firm one, lead: all rows, gone."""
    rows = [(start,)]
    for _ in range(many):
        rows = [row + (goal,) for row in rows for goal in (reckoning.asks(council, row[-1]) or (row[-1],))]
    return {row[-1] for row in rows}


class Talks(unittest.TestCase):

    def test_after_talk(self):
        for seed, council in SOME:
            begun = begun_for(council, seed)
            for many in (0, 1, 2, 3, 8):
                talk = talk_for(council, seed, many)
                self.assertEqual(rounds.after_talk(council, begun, talk), tuple(map(pair, after(council, begun, talk))))

    def test_within_the_two_numbers(self):
        """The guarantee: strictly between the least and the greatest number, just this one if they are one."""
        for seed, council in SOME:
            begun = begun_for(council, seed)
            for many in (0, 1, 2, 3, 5):
                for more in range(3):
                    held = after(council, begun, talk_for(council, seed + more, many))
                    for asker in reckoning.askers(council):
                        heard = [begun[k] for k in come_to(council, asker, many)]
                        low = rounds.least_after(council, begun, many, asker)
                        high = rounds.greatest_after(council, begun, many, asker)
                        self.assertEqual((low, high), (min(heard), max(heard)))
                        self.assertTrue(low < held[asker] < high or low == held[asker] == high)

    def test_each_number_between_comes(self):
        """Behind talks of one round, and of two: some number near each of both ends."""
        for seed, council in SOME[::3]:
            begun = begun_for(council, seed)
            for asker in reckoning.askers(council):
                for many in (1, 2):
                    low, high = (f(council, begun, many, asker) for f in (rounds.least_after, rounds.greatest_after))
                    total = tuple(int(k == asker) for k in range(len(council)))
                    if len(self.choices(council)) ** many <= 2000 and low < high:
                        self.assertIsNotNone(rounds.talk_against(council, begun, many, total, low + 1))
                        self.assertIsNone(rounds.talk_against(council, begun, many, total, low))

    def choices(self, council):
        return list(product(*[reckoning.asks(council, k) or (k,) for k in range(len(council))]))

    def test_great_rounds(self):
        """So many rounds that none could be gone one by one."""
        for seed, council in SOME + [(3, BIG), (4, WIDE), (5, LONG)]:
            begun = begun_for(council, seed)
            for asker in reckoning.askers(council)[:3]:
                layers, gone = [{asker}], {asker}
                for _ in range(200):
                    gone = {goal for k in gone for goal in (reckoning.asks(council, k) or (k,))}
                    layers.append(gone)
                for many in (50, 171, 199):
                    right = {begun[k] for k in layers[many]}
                    self.assertEqual(rounds.least_after(council, begun, many, asker), min(right))
                    self.assertEqual(rounds.greatest_after(council, begun, many, asker), max(right))
                # All rings here come round in turns that divide 2520, so that this is as many rounds as 2520.
                far = self.layer(council, asker, 2520)
                self.assertEqual(rounds.least_after(council, begun, 2520 * 10 ** 26, asker), min(begun[k] for k in far))
                self.assertEqual(rounds.greatest_after(council, begun, 2520 * 10 ** 26, asker), max(begun[k] for k in far))

    def layer(self, council, asker, many):
        gone = {asker}
        for _ in range(many):
            gone = {goal for k in gone for goal in (reckoning.asks(council, k) or (k,))}
        return gone

    def test_rings_of_many_lengths(self):
        """Rings of two, three and five askers: rows come round in 30 rounds only."""
        council = ((1,), (0,), (3,), (4,), (2,), (6,), (7,), (8,), (9,), (5,), 40, (0, 2, 5), (11, 10))
        begun = tuple(range(10)) + (40, -3, 60)
        for many in (0, 1, 2, 28, 29, 30, 31, 59, 60, 61):
            for asker in (0, 3, 11, 12):
                told = [begun[k] for k in self.layer(council, asker, many)]
                for far in (many, many + 30 * 10 ** 28) if many > 9 else (many,):
                    self.assertEqual(rounds.least_after(council, begun, far, asker), min(told))
                    self.assertEqual(rounds.greatest_after(council, begun, far, asker), max(told))
                    right = tuple(sorted(k for k in self.layer(council, asker, many) if k != 10))
                    self.assertEqual(rounds.hangs_on(council, asker, far), right)


class Rounds(unittest.TestCase):

    def test_round_weights(self):
        seen = {True: 0, False: 0}
        for seed, council in SOME:
            begun = [Fraction(n) for n in begun_for(council, seed)]
            for more in range(4):
                talk = talk_for(council, seed, more)
                voice = after(council, begun, talk)
                later = talk_round(council, samples.weights_for(council, seed + 9), voice)
                if more > 1:
                    roll = samples.rolls(seed)
                    later = [part if reckoning.is_firm(council, k) else part + (next(roll) % 3 - 1) for k, part in enumerate(later)]
                fits = all(min(heard) < later[k] < max(heard) or set(heard) == {later[k]}
                           for k in reckoning.askers(council) for heard in [[voice[goal] for goal in council[k]]])
                seen[fits] += 1
                told = tuple(map(pair, voice)), tuple(map(pair, later))
                made = rounds.round_weights(council, *told)
                self.assertEqual(made is not None, fits)
                if made is not None:
                    self.assertTrue(reckoning.is_weights(council, made))
                    self.assertEqual(talk_round(council, made, voice), later)
                    self.assertIs(rounds.is_round_weights(council, *told, made), True)
        self.assertGreater(min(seen.values()), 20)

    def test_is_round_weights(self):
        for seed, council in SOME:
            weights = samples.weights_for(council, seed)
            voice = [Fraction(n) for n in begun_for(council, seed)]
            later = talk_round(council, weights, voice)
            for other in (weights, samples.weights_for(council, seed + 1), samples.rows_for(council, 1, 10 ** 50, 3)):
                self.assertIs(rounds.is_round_weights(council, tuple(map(pair, voice)), tuple(map(pair, later)), other),
                              talk_round(council, other, voice) == later)


    def test_at_the_bounds(self):
        """Ten askers, great numbers, eight rounds by great WEIGHTS."""
        for seed, council in enumerate((BIG, WIDE, LONG)):
            begun = begun_for(council, seed)
            talk = tuple(samples.rows_for(council, seed + k, 10 ** 30 - 900, 900) for k in range(8))
            held = after(council, begun, talk)
            self.assertEqual(rounds.after_talk(council, begun, talk), tuple(map(pair, held)))
            ahead = after(council, begun, talk[:7])
            told = tuple(map(pair, ahead)), tuple(map(pair, held))
            self.assertIs(rounds.is_round_weights(council, *told, talk[7]), True)
            made = rounds.round_weights(council, *told)
            self.assertEqual(talk_round(council, made, ahead), held)
            for asker in reckoning.askers(council):
                self.assertEqual(rounds.hangs_on(council, asker, 10 ** 30), self.hanging(council, asker, 2520 * 2))
                self.assertIsNone(rounds.rounds_till_free(council, asker))

    def hanging(self, council, asker, many):
        """As many rounds as come round like 10 ** 30 do: all rings here hold turns of one or two."""
        gone = {asker}
        for _ in range(many):
            gone = {goal for k in gone for goal in council[k] if not reckoning.is_firm(council, goal)}
        return tuple(sorted(gone))


class Unfolded(unittest.TestCase):

    def test_unfolded(self):
        for seed, council in SOME + [(3, WIDE), (4, BIG)]:
            begun, many = begun_for(council, seed), len(council)
            self.assertEqual(rounds.unfolded(council, begun, 0), begun)
            for layers in (1, 2, 4):
                made = rounds.unfolded(council, begun, layers)
                self.assertEqual(len(made), many * (layers + 1))
                self.assertEqual(made[:many], begun)
                for k in range(many, len(made)):
                    part = council[k % many]
                    self.assertEqual(made[k], part if isinstance(part, int) else
                                     tuple(goal + (k // many - 1) * many for goal in part))

    def test_totals(self):
        """By all rows of arcs: whom each asker follows in each round."""
        seen = 0
        for seed, council in SOME:
            begun, total = begun_for(council, seed), samples.total_for(council, seed)
            choices = list(product(*[reckoning.asks(council, k) or (k,) for k in range(len(council))]))
            for many in (0, 1, 2, 3):
                if len(choices) ** many > 400:
                    continue
                values = set()
                for talk in product(choices, repeat=many):
                    held = begun
                    for row in talk:
                        held = tuple(held[goal] for goal in row)
                    values.add(sum(n * part for n, part in zip(total, held)))
                low, high = min(values), max(values)
                self.assertEqual(rounds.total_after(council, begun, many, total), (low, high))
                layers = rounds.unfolded(council, begun, many)
                last = (0,) * (len(council) * many) + total
                self.assertEqual((sums.least_value(layers, last), sums.greatest_value(layers, last)), (low, high))
                for number in (low - 1, low, low + 1, high, high + 1, 10 ** 30):
                    seen += self.check_talk(council, begun, many, total, number, low)
        self.assertGreater(seen, 100)

    def check_talk(self, council, begun, many, total, number, low):
        made = rounds.talk_against(council, begun, many, total, number)
        self.assertEqual(made is None, low >= number)
        if made is None:
            return False
        self.assertEqual(len(made), many)
        self.assertTrue(all(reckoning.is_weights(council, weights) for weights in made))
        self.assertLess(sum(n * part for n, part in zip(total, after(council, begun, made))), number)
        self.assertIs(rounds.is_talk_against(council, begun, many, total, number, made), True)
        self.assertIs(rounds.is_talk_against(council, begun, many + 1, total, number, made), False)
        return True

    def test_is_talk_against(self):
        for seed, council in SOME:
            begun, total = begun_for(council, seed), samples.total_for(council, seed)
            for many in (0, 1, 2, 4):
                talk = talk_for(council, seed, many)
                value = sum(n * part for n, part in zip(total, after(council, begun, talk)))
                floor = value.numerator // value.denominator
                self.assertIs(rounds.is_talk_against(council, begun, many, total, floor, talk), False)
                self.assertIs(rounds.is_talk_against(council, begun, many, total, floor + 1, talk), True)
                great = tuple(tuple(tuple(n * 10 ** 60 for n in row) for row in weights) for weights in talk)
                self.assertIs(rounds.is_talk_against(council, begun, many, total, floor + 1, great), True)

    def test_near_the_bounds(self):
        """16 MEMBERS, ten askers, four rounds: an unfolded COUNCIL of 80 MEMBERS, 40 askers, 1,296 FOLLOWINGS."""
        council = (0, 6, (0, 1, 5), (0, 2), (3,), (4,), (5,), (6,), (7,), (8,), (9,), (10,), 3, 4, 5, 6)
        begun = (0, 6, 1, 2, -3, 4, 5, 6, -7, 8, 9, 10, 3, 4, 5, 6)
        total = (0, 0, 3, -5, 1, 1, -1, 0, 2, 0, 0, 1, 0, 0, 0, 0)
        low, high = rounds.total_after(council, begun, 4, total)
        made = rounds.talk_against(council, begun, 4, total, low + 1)
        value = sum(n * part for n, part in zip(total, after(council, begun, made)))
        self.assertTrue(low < value < low + 1)
        self.assertIsNone(rounds.talk_against(council, begun, 4, total, low))
        turned = tuple(-n for n in total)
        self.assertEqual(rounds.total_after(council, begun, 4, turned), (-high, -low))
        self.assertIs(rounds.is_talk_against(council, begun, 4, total, low + 1, made), True)

    def test_is_begun(self):
        for seed, council in SOME + [(3, WIDE)]:
            begun = begun_for(council, seed)
            self.assertIs(rounds.is_begun(council, begun), True)
            for k in range(len(council)):
                other = begun[:k] + (begun[k] + 1,) + begun[k + 1:]
                self.assertIs(rounds.is_begun(council, other), not reckoning.is_firm(council, k))


class Hanging(unittest.TestCase):

    def rows(self, council, asker, many):
        """To whom rows of just so many arcs over askers alone lead."""
        gone = [(asker,)]
        for _ in range(many):
            gone = [row + (goal,) for row in gone for goal in council[row[-1]] if not reckoning.is_firm(council, goal)]
        return {row[-1] for row in gone}

    def test_hangs_on(self):
        for seed, council in SOME:
            for asker in reckoning.askers(council):
                for many in (0, 1, 2, 3, 5):
                    right = tuple(sorted(self.rows(council, asker, many)))
                    self.assertEqual(rounds.hangs_on(council, asker, many), right)

    def test_counts(self):
        """An asker's number at first counts exactly if another one in its place comes to another number at last."""
        for seed, council in SOME:
            begun = begun_for(council, seed)
            for many in (0, 1, 3):
                talk = talk_for(council, seed, many)
                held = after(council, begun, talk)
                for other in reckoning.askers(council):
                    changed = after(council, begun[:other] + (begun[other] + 7,) + begun[other + 1:], talk)
                    for asker in reckoning.askers(council):
                        self.assertEqual(changed[asker] != held[asker], other in rounds.hangs_on(council, asker, many))

    def test_free(self):
        seen = set()
        for _, council in SOME:
            for asker in reckoning.askers(council):
                free = [many for many in range(len(council) + 1) if not self.rows_set(council, asker, many)]
                right = free[0] if free else None
                seen.add(right)
                self.assertEqual(rounds.rounds_till_free(council, asker), right)
                self.assertEqual(rounds.hangs_on(council, asker, 10 ** 30) == (), right is not None)
        self.assertTrue({None, 1, 2} <= seen)
        line = ((1,), (2,), (3,), (4,), (5,), (6,), (7,), (8,), (9,), (10,), 5)
        self.assertEqual([rounds.rounds_till_free(line, k) for k in range(10)], list(range(10, 0, -1)))

    def rows_set(self, council, asker, many):
        gone = {asker}
        for _ in range(many):
            gone = {goal for k in gone for goal in council[k] if not reckoning.is_firm(council, goal)}
        return gone


class Farthest(unittest.TestCase):

    def test_farthest(self):
        """The guarantee, too: it never grows, and is less behind as many rounds as there are askers."""
        for seed, council in enumerate(SOUND[::13] + MADE[::3] + [(7,), (5, (0, 2), (1,)), LONG, WIDE]):
            begun, weights = begun_for(council, seed), samples.weights_for(council, seed)
            voice = reckoning.voice(council, weights)
            told = []
            for many in range(9):
                held = after(council, begun, (weights,) * many)
                right = max((abs(held[k] - voice[k]) for k in reckoning.askers(council)), default=Fraction(0))
                self.assertEqual(rounds.farthest(council, begun, weights, many), pair(right))
                told.append(right)
            self.assertEqual(told, sorted(told, reverse=True))
            askers = len(reckoning.askers(council))
            for many in range(9 - askers):
                self.assertTrue(told[many + askers] < told[many] or told[many] == 0)

    def test_without_askers(self):
        self.assertEqual(rounds.farthest((7, -2), (7, -2), ((), ()), 3), (0, 1))
        self.assertEqual(rounds.after_talk((7,), (7,), (((),),) * 8), ((7, 1),))
        self.assertEqual(rounds.total_after((7,), (7,), 4, (-2,)), (-14, -14))
        self.assertEqual(rounds.talk_against((7,), (7,), 2, (1,), 8), (((),), ((),)))
        self.assertIsNone(rounds.talk_against((7,), (7,), 0, (1,), 7))
        self.assertEqual(rounds.talk_against((7,), (7,), 0, (1,), 8), ())

    def test_the_voice_is_left_as_it_is(self):
        for seed, council in enumerate(SOUND[::21]):
            weights = samples.weights_for(council, seed)
            voice = voices.voice_by(council, weights)
            self.assertIs(rounds.is_round_weights(council, voice, voice, weights), True)
            self.assertIsNotNone(rounds.round_weights(council, voice, voice))


if __name__ == "__main__":
    unittest.main()
