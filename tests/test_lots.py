"""Promise 14: HEEDS that are told, held against a plain reckoning over all sound LOTS, and the guarantees."""

import unittest
from fractions import Fraction
from math import prod

from tests import reckoning, samples
from tests.reckoning import pair
from tests.samples import BIG, LONG, MADE, SOUND, WIDE
from whomheeds import lots, voices
from whomheeds.errors import Unfit

SOME = list(enumerate(SOUND[::17] + MADE[::4] + [(7,), (7, 7), (5, (0, 2), (1,)), (3, 3, (0, 1, 3), (1, 2)),
                                                 ((1, 2, 3), (0, 3), 12, 0), ((1, 2), 6, 0), ((1, 2, 3, 4), 0, 6, 3, 9)]))


def triples_of(council):
    return [(asker, one, other) for asker in reckoning.askers(council) for one, other in reckoning.pairs_of(council[asker])]


def heeds_for(council, seed):
    """HEEDS: (), a few, told both ways, needless ones, too."""
    told, roll = triples_of(council), samples.rolls(seed)
    found = {()}
    if told:
        for many in (1, 2, 4, 6):
            found.add(tuple(sorted({told[next(roll) % len(told)] for _ in range(many)})))
        asker, one, other = told[next(roll) % len(told)]
        found.add(tuple(sorted([(asker, one, other), (asker, other, one)])))
    return [heeds for heeds in sorted(found) if count(council, heeds) <= 500]


def count(council, heeds):
    """As many as the LOTS of all askers, multiplied."""
    return prod(len(reckoning.lots_of(council, heeds, k)) for k in reckoning.askers(council))


def cases():
    for seed, council in SOME:
        for heeds in heeds_for(council, seed):
            yield seed, council, heeds


def keeping(council, heeds, seed):
    """WEIGHTS that keep heeds: numbers, each raised to those that it must not be below."""
    rows = [dict(zip(reckoning.asks(council, k), row)) for k, row in enumerate(samples.weights_for(council, seed))]
    for _ in range(6):
        for asker, one, other in heeds:
            rows[asker][one] = max(rows[asker][one], rows[asker][other])
    return tuple(tuple(row.values()) for row in rows)


def even(council):
    return tuple((1,) * len(reckoning.asks(council, k)) for k in range(len(council)))


VALUES = {}


def voices_by_lots(council, heeds):
    if (council, heeds) not in VALUES:
        VALUES[council, heeds] = [(row, reckoning.voice_by_lots(council, row)) for row in reckoning.all_lots(council, heeds)]
    return VALUES[council, heeds]


def value(total, voice):
    return sum((n * part for n, part in zip(total, voice)), Fraction(0))


class Heeds(unittest.TestCase):

    def test_all_heeds(self):
        """The guarantee: kept exactly if each LOT of the asker with other has one."""
        for _, council, heeds in cases():
            right = tuple(sorted(triple for triple in triples_of(council)
                                 if all(triple[1] in lot for lot in reckoning.lots_of(council, heeds, triple[0])
                                        if triple[2] in lot)))
            self.assertEqual(lots.all_heeds(council, heeds), right)
            for triple in triples_of(council):
                if triple not in right:
                    self.check_not_kept(council, heeds, triple)

    def check_not_kept(self, council, heeds, triple):
        """WEIGHTS that keep heeds, not the triple: great for those of a LOT, 1 for the others."""
        asker, one, other = triple
        lot = next(lot for lot in reckoning.lots_of(council, heeds, asker) if other in lot and one not in lot)
        weights = tuple(tuple(9 if k == asker and goal in lot else 1 for goal in reckoning.asks(council, k))
                        for k in range(len(council)))
        self.assertIs(lots.keeps_heeds(council, heeds, weights), True)
        self.assertIs(lots.keeps_heeds(council, (triple,), weights), False)

    def test_needless_heeds(self):
        seen = 0
        for _, council, heeds in cases():
            right = tuple(triple for triple in heeds
                          if triple in lots.all_heeds(council, tuple(told for told in heeds if told != triple)))
            seen += len(right)
            self.assertEqual(lots.needless_heeds(council, heeds), right)
        self.assertGreater(seen, 5)
        council = ((1, 2, 3), 0, 6, 9)
        both = ((0, 1, 2), (0, 2, 1))
        self.assertEqual(lots.needless_heeds(council, both), ())
        self.assertEqual(lots.needless_heeds(council, ((0, 1, 2), (0, 1, 3), (0, 2, 3))), ((0, 1, 3),))

    def test_keeps_heeds(self):
        for seed, council, heeds in cases():
            for weights in (samples.weights_for(council, seed), keeping(council, heeds, seed), even(council)):
                right = reckoning.keeps_heeds(council, heeds, weights)
                self.assertIs(lots.keeps_heeds(council, heeds, weights), right)
                if right:
                    self.assertIs(lots.keeps_heeds(council, lots.all_heeds(council, heeds), weights), True)
            self.assertIs(right, True)

    def test_lots(self):
        for _, council, heeds in cases():
            for asker in reckoning.askers(council):
                self.assertEqual(lots.lots_of(council, heeds, asker), reckoning.lots_of(council, heeds, asker))
            self.assertEqual(lots.all_lots(council, heeds), reckoning.all_lots(council, heeds))


class Values(unittest.TestCase):

    def test_value_by_lots(self):
        seen = 0
        for seed, council, heeds in cases():
            total = samples.total_for(council, seed)
            for row, voice in voices_by_lots(council, heeds)[:20]:
                self.assertEqual(lots.value_by_lots(council, row, total), pair(value(total, voice)))
            shut = tuple(part[-1:] if not isinstance(part, int) else () for part in council)
            if all(reckoning.firm_roads(reckoning.narrowed(council, shut), k) for k in range(len(council))):
                self.assertEqual(lots.value_by_lots(council, shut, total),
                                 pair(reckoning.sum_by_lots(council, shut, total)))
            else:
                seen += 1
                with self.assertRaises(Unfit):
                    lots.value_by_lots(council, shut, total)
        self.assertGreater(seen, 3)

    def test_heeded(self):
        flags = set()
        for seed, council, heeds in cases():
            for more in (0, 1):
                total = samples.total_for(council, seed + more)
                values = [value(total, voice) for _, voice in voices_by_lots(council, heeds)]
                low, high = min(values), max(values)
                alike = reckoning.value(council, even(council), total)
                made = lots.heeded(council, heeds, total)
                self.assertEqual(made, (pair(low), pair(high), alike == low, alike == high))
                flags.add(made[2:])
                self.check_held(council, heeds, total, low, high, alike)
        self.assertEqual(len(flags), 4)

    def check_held(self, council, heeds, total, low, high, alike):
        floor = low.numerator // low.denominator
        for number in {floor - 1, floor, floor + 1, high.numerator // high.denominator + 1, 10 ** 30}:
            self.assertIs(lots.holds_heeded(council, heeds, total, number), low >= number)
            strictly = low > number or (low == number and alike > low)
            self.assertIs(lots.strictly_heeded(council, heeds, total, number), strictly)
            made = lots.heeding_against(council, heeds, total, number)
            self.assertEqual(made is None, low >= number)
            if made is not None:
                self.assertTrue(reckoning.is_weights(council, made))
                self.assertTrue(reckoning.keeps_heeds(council, heeds, made))
                self.assertLess(reckoning.value(council, made, total), number)
                self.assertIs(lots.is_heeding_against(council, heeds, total, number, made), True)

    def test_heeding_weights(self):
        for seed, council, heeds in cases():
            total = samples.total_for(council, seed)
            values = [value(total, voice) for _, voice in voices_by_lots(council, heeds)]
            low, high, alike = min(values), max(values), reckoning.value(council, even(council), total)
            for fraction in reckoning.near([low, high])[::2] + [low, high, alike]:
                right = low < fraction < high or fraction == alike
                made = lots.heeding_weights(council, heeds, total, pair(fraction))
                self.assertEqual(made is None, not right)
                if made is not None:
                    self.assertTrue(reckoning.is_weights(council, made))
                    self.assertTrue(reckoning.keeps_heeds(council, heeds, made))
                    self.assertEqual(reckoning.value(council, made, total), fraction)
                    self.assertIs(lots.is_heeding(council, heeds, total, pair(fraction), made), True)

    def test_values_of_weights_that_keep_heeds(self):
        """The guarantee: strictly between the least and the greatest, or an end that comes."""
        for seed, council, heeds in cases():
            total = samples.total_for(council, seed)
            low, high, is_low, is_high = lots.heeded(council, heeds, total)
            for more in range(3):
                weights = keeping(council, heeds, seed + more)
                found = reckoning.value(council, weights, total)
                self.assertTrue(Fraction(*low) < found < Fraction(*high) or (is_low and pair(found) == low)
                                or (is_high and pair(found) == high))
                self.assertIs(lots.is_heeding(council, heeds, total, pair(found), weights), True)
                floor = found.numerator // found.denominator
                self.assertIs(lots.is_heeding_against(council, heeds, total, floor, weights), False)
                self.assertIs(lots.is_heeding_against(council, heeds, total, floor + 1, weights), True)

    def test_weights_that_do_not_keep_heeds_are_none(self):
        council, heeds, total = ((1, 2), 6, 0), ((0, 1, 2),), (1, 0, 0)
        self.assertIs(lots.is_heeding(council, heeds, total, (2, 1), ((1, 2), (), ())), False)
        self.assertIs(lots.is_heeding(council, (), total, (2, 1), ((1, 2), (), ())), True)
        self.assertIs(lots.is_heeding_against(council, heeds, total, 3, ((1, 2), (), ())), False)
        self.assertIs(lots.is_heeding_against(council, (), total, 3, ((1, 2), (), ())), True)


class Best(unittest.TestCase):

    def test_high_and_low(self):
        """The guarantee: some sound LOTS give all at once the greatest FRACTIONS, some the least."""
        for _, council, heeds in cases():
            rows = voices_by_lots(council, heeds)
            high = tuple(max(column) for column in zip(*[voice for _, voice in rows]))
            low = tuple(min(column) for column in zip(*[voice for _, voice in rows]))
            highest, lowest = [row for row, voice in rows if voice == high], [row for row, voice in rows if voice == low]
            self.assertIn(lots.high_lots(council, heeds), highest)
            self.assertIn(lots.low_lots(council, heeds), lowest)
            for row, voice in rows[:40]:
                self.assertIs(lots.is_high_lots(council, heeds, row), voice == high)
                self.assertIs(lots.is_low_lots(council, heeds, row), voice == low)
            alike = reckoning.voice(council, even(council))
            for member in range(len(council)):
                right = (pair(low[member]), pair(high[member]), alike[member] == low[member], alike[member] == high[member])
                self.assertEqual(lots.heeded_range(council, heeds, member), right)
                total = tuple(int(k == member) for k in range(len(council)))
                self.assertEqual(lots.heeded(council, heeds, total), right)

    def test_edges(self):
        self.assertEqual(lots.high_lots((7,), ()), ((),))
        self.assertEqual(lots.heeded_range((7,), (), 0), ((7, 1), (7, 1), True, True))
        self.assertEqual(lots.all_lots((7, 8), ()), [((), ())])
        self.assertEqual(lots.heeded((7,), (), (-2,)), ((-14, 1), (-14, 1), True, True))
        self.assertEqual(lots.heeding_weights((7,), (), (2,), (14, 1)), ((),))
        self.assertIsNone(lots.heeding_weights((7,), (), (2,), (15, 1)))
        both = ((0, 1, 2), (0, 2, 1))
        self.assertEqual(lots.lots_of(((1, 2), 6, 0), both, 0), [(1, 2)])
        self.assertEqual(lots.heeded(((1, 2), 6, 0), both, (1, 0, 0)), ((3, 1), (3, 1), True, True))
        self.assertIs(lots.strictly_heeded(((1, 2), 6, 0), both, (1, 0, 0), 3), False)


class Great(unittest.TestCase):

    def test_ranges(self):
        """Millions of FOLLOWINGS, millions of LOTS."""
        for council in (BIG, WIDE, LONG):
            told = triples_of(council)
            for heeds in ((), tuple(told[::7]), tuple(told[3::11])):
                for sign, best, is_best in ((1, lots.high_lots, lots.is_high_lots), (-1, lots.low_lots, lots.is_low_lots)):
                    made = best(council, heeds)
                    self.assertIs(is_best(council, heeds, made), True)
                    voice = reckoning.voice_by_lots(council, made)
                    for asker in reckoning.askers(council):
                        options = reckoning.lots_of(council, heeds, asker)
                        self.assertIn(made[asker], options)
                        means = [sum(voice[goal] for goal in lot) / len(lot) for lot in options]
                        self.assertEqual(max(sign * mean for mean in means), sign * voice[asker])
                    end = lots.heeded_range(council, heeds, 9)[sign == 1]
                    self.assertEqual(end, pair(voice[9]))
            self.assertEqual(lots.all_heeds(council, heeds), tuple(sorted(
                triple for triple in told if all(triple[1] in lot for lot in reckoning.lots_of(council, heeds, triple[0])
                                                 if triple[2] in lot))))

    def test_heeds(self):
        for council in (BIG, WIDE, LONG):
            told = triples_of(council)
            for heeds in ((), tuple(told[::7]), tuple(told[1::4]), tuple(told)):
                self.assertIs(lots.is_heeds(council, heeds), True)
                weights = samples.rows_for(council, 3, 10 ** 30 - 900, 900)
                kept = tuple(tuple(max(row, default=0) for _ in row) for row in weights)
                self.assertIs(lots.keeps_heeds(council, heeds, weights), reckoning.keeps_heeds(council, heeds, weights))
                self.assertIs(lots.keeps_heeds(council, heeds, kept), True)
                every = {triple: lots.all_heeds(council, tuple(part for part in heeds if part != triple))
                         for triple in heeds[::9]}
                needless = lots.needless_heeds(council, heeds)
                for triple, drawn in every.items():
                    self.assertIs(triple in needless, triple in drawn)
                for asker in reckoning.askers(council):
                    self.assertEqual(lots.lots_of(council, heeds, asker), reckoning.lots_of(council, heeds, asker))
                total = samples.total_for(council, 4)
                value = reckoning.value(council, kept, total)
                self.assertIs(lots.is_heeding(council, heeds, total, pair(value), kept), True)
                self.assertIs(lots.is_heeding_against(council, heeds, total, value.numerator // value.denominator, kept), False)
            made = lots.high_lots(council, ())
            self.assertEqual(lots.value_by_lots(council, made, total), pair(reckoning.sum_by_lots(council, made, total)))

    def test_sums(self):
        """A COUNCIL at the bounds, as many LOTS as are let: each asker heeds in one order, some no two unlike."""
        council = WIDE
        heeds = []
        for asker in reckoning.askers(council):
            asked = council[asker]
            heeds += [(asker, one, other) for one, other in zip(asked, asked[1:])]
            heeds += [(asker, asked[-1], asked[0])] if asker > 8 else []
        heeds = tuple(sorted(heeds))
        self.assertEqual(count(council, heeds), 125)
        total = samples.total_for(council, 4)
        values = [reckoning.sum_by_lots(council, row, total) for row in reckoning.all_lots(council, heeds)]
        low, high = min(values), max(values)
        made = lots.heeded(council, heeds, total)
        self.assertEqual(made[:2], (pair(low), pair(high)))
        number = low.numerator // low.denominator + 1
        weights = lots.heeding_against(council, heeds, total, number)
        self.assertIs(lots.is_heeding_against(council, heeds, total, number, weights), True)
        self.assertLess(reckoning.value(council, weights, total), number)
        weights = lots.heeding_weights(council, heeds, total, pair((low + high) / 2))
        self.assertTrue(reckoning.keeps_heeds(council, heeds, weights))
        self.assertEqual(reckoning.value(council, weights, total), (low + high) / 2)
        self.assertEqual(voices.sum_at(council, weights, total), pair((low + high) / 2))


if __name__ == "__main__":
    unittest.main()
