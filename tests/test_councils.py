"""Promise 4: the COUNCILS, each function held against a plain reckoning, and the guarantees."""

import unittest
from itertools import permutations

from tests import reckoning, samples
from tests.samples import BIG, SMALL, SOUND, UNSOUND, WIDE
from whomheeds import councils, voices
from whomheeds.errors import Lost, NoAsker, Unfit

SOME = SMALL[::5] + [(5, (0, 2), (1, 3), 9), (4, (2,), (1,), (0, 1)), ((1,), (2,), (0,), 6), ((1, 2), (0, 2), (0, 1))]


def pairs(council):
    return [(one, other) for one in range(len(council)) for other in range(len(council))]


def fewest(rows):
    """Of those with the fewest parts the least."""
    return min(rows, key=lambda row: (len(row), row), default=None)


class Parts(unittest.TestCase):

    def test_members_and_arcs(self):
        for council in SMALL:
            self.assertEqual(councils.askers(council), reckoning.askers(council))
            self.assertEqual(councils.firm_ones(council), reckoning.firm_ones(council))
            self.assertEqual(councils.arcs_of(council), tuple(sorted(reckoning.arcs(council))))
            for k in range(len(council)):
                self.assertEqual(councils.asked_by(council, k),
                                 tuple(a for a, b in sorted(reckoning.arcs(council)) if b == k))

    def test_roads(self):
        for council in SOME:
            told = reckoning.all_roads(council)
            for one, other in pairs(council):
                right = [road for road in told if (road[0], road[-1]) == (one, other)]
                self.assertEqual(councils.roads(council, one, other), right)
                self.assertEqual(councils.shortest_road(council, one, other), fewest(right))

    def test_roads_to_itself_and_to_nobody(self):
        for council in ((5,), (5, 6), (5, (0,)), ((1,), (0,))):
            for k in range(len(council)):
                self.assertEqual(councils.roads(council, k, k), [(k,)])
                self.assertEqual(councils.shortest_road(council, k, k), (k,))
        self.assertEqual(councils.roads((5, (0,)), 0, 1), [])
        self.assertIsNone(councils.shortest_road((5, (0,)), 0, 1))

    def test_shortest_road_is_the_least_of_the_short_ones(self):
        council = ((1, 2, 3), (5,), (4,), (4,), 8, (4,))
        self.assertEqual(councils.shortest_road(council, 0, 4), (0, 2, 4))
        self.assertEqual(councils.roads(council, 0, 4), [(0, 1, 5, 4), (0, 2, 4), (0, 3, 4)])

    def test_reach(self):
        for council in SMALL[::2]:
            told = reckoning.all_roads(council)
            for k in range(len(council)):
                self.assertEqual(councils.reached(council, k), tuple(sorted({r[-1] for r in told if r[0] == k})))
                self.assertEqual(councils.reaching(council, k), tuple(sorted({r[0] for r in told if r[-1] == k})))

    def test_lost(self):
        for council in SMALL:
            self.assertEqual(councils.lost(council), reckoning.lost(council))
            self.assertIs(councils.is_sound(council), reckoning.lost(council) == ())

    def test_needed_arcs(self):
        for council in SOUND:
            right = []
            for asker, goal in sorted(reckoning.arcs(council)):
                rest = tuple(k for k in council[asker] if k != goal)
                less = council[:asker] + (rest,) + council[asker + 1:]
                if not rest or reckoning.lost(less):
                    right.append((asker, goal))
            self.assertEqual(councils.needed_arcs(council), tuple(right))
        for council in UNSOUND:
            with self.assertRaises(Lost) as caught:
                councils.needed_arcs(council)
            self.assertEqual(caught.exception.number, reckoning.lost(council)[0])

    def test_rings(self):
        for council in SOME:
            rings = reckoning.all_rings(council)
            self.assertEqual(councils.in_rings(council), tuple(sorted({k for ring in rings for k in ring})))
            for k in reckoning.askers(council):
                right = fewest([ring for ring in rings if ring[0] == k])
                self.assertEqual(councils.shortest_ring(council, k), right)
            for k in reckoning.firm_ones(council):
                with self.assertRaises(NoAsker):
                    councils.shortest_ring(council, k)

    def test_shortest_ring_is_the_least_of_the_short_ones(self):
        council = ((1, 3, 4), (2,), (0,), (5,), (2,), (0,))
        self.assertEqual(councils.shortest_ring(council, 0), (0, 1, 2))
        self.assertEqual(councils.shortest_ring(((1, 2), (2,), (0, 3), 5), 0), (0, 2))
        self.assertIsNone(councils.shortest_ring(((1,), (2,), (1,)), 0))

    def test_together(self):
        for council in SMALL[::2]:
            reach = [reckoning.reached(council, k) for k in range(len(council))]
            lots = {tuple(j for j in range(len(council)) if j in reach[k] and k in reach[j])
                    for k in range(len(council))}
            self.assertEqual(councils.together(council), tuple(sorted(lots)))


class Made(unittest.TestCase):

    def check_council(self, made):
        self.assertTrue(reckoning.is_council(made), made)
        return made

    def outcome(self, function, *arguments):
        """What comes of it, a COUNCIL; None if it is Unfit."""
        try:
            return self.check_council(function(*arguments))
        except Unfit:
            return None

    def test_with_firm_and_asker(self):
        for council in SMALL[::3]:
            self.assertEqual(self.outcome(councils.with_firm, council, -8), council + (-8,))
            for some in samples.sets_of(range(len(council))):
                self.assertEqual(self.outcome(councils.with_asker, council, some), council + (some,))

    def test_arcs(self):
        for council in SMALL[::3]:
            for asker in reckoning.askers(council):
                for goal in range(len(council)):
                    row = set(council[asker])
                    more = None if goal in row or goal == asker else tuple(sorted(row | {goal}))
                    less = None if goal not in row or row == {goal} else tuple(sorted(row - {goal}))
                    for function, right in ((councils.with_arc, more), (councils.without_arc, less)):
                        made = self.outcome(function, council, asker, goal)
                        self.assertEqual(made, right and council[:asker] + (right,) + council[asker + 1:])

    def test_made(self):
        for council in SMALL[::3]:
            for k in range(len(council)):
                front, back = council[:k], council[k + 1:]
                self.assertEqual(self.outcome(councils.made_firm, council, k, 4), front + (4,) + back)
                for some in samples.sets_of(range(len(council))):
                    right = None if k in some else front + (some,) + back
                    self.assertEqual(self.outcome(councils.made_asker, council, k, some), right)

    def test_without_member(self):
        for council in SMALL[::3]:
            for k in range(len(council)):
                right = None
                if len(council) > 1 and all(goal != k for _, goal in reckoning.arcs(council)):
                    right = tuple(part if isinstance(part, int) else tuple(n - (n > k) for n in part)
                                  for part in council[:k] + council[k + 1:])
                self.assertEqual(self.outcome(councils.without_member, council, k), right)

    def test_renumbered(self):
        for council in SMALL[::9]:
            for order in permutations(range(len(council))):
                made = self.check_council(councils.renumbered(council, order))
                for k, old in enumerate(order):
                    told = made[k] if isinstance(made[k], int) else tuple(sorted(order[n] for n in made[k]))
                    self.assertEqual(told, council[old])

    def test_put_beside(self):
        for one in SMALL[::29]:
            for other in SMALL[::31]:
                made = self.check_council(councils.put_beside(one, other))
                self.assertEqual(made[:len(one)], one)
                back = tuple(part if isinstance(part, int) else tuple(n - len(one) for n in part)
                             for part in made[len(one):])
                self.assertEqual(back, other)

    def test_part_of(self):
        for council in SMALL[::3]:
            for k in range(len(council)):
                kept = reckoning.reached(council, k)
                made = self.check_council(councils.part_of(council, k))
                back = tuple(part if isinstance(part, int) else tuple(kept[n] for n in part) for part in made)
                self.assertEqual(back, tuple(council[n] for n in kept))


class Guarantees(unittest.TestCase):

    def test_sound_means_a_following(self):
        for council in SMALL:
            self.assertEqual(councils.is_sound(council), reckoning.followings(council) != [])

    def test_sound_means_no_set_that_asks_only_its_own(self):
        for council in SMALL:
            shut = [lot for lot in samples.sets_of(reckoning.askers(council))
                    if all(set(council[k]) <= set(lot) for k in lot)]
            self.assertEqual(councils.is_sound(council), shut == [])

    def test_stays_sound(self):
        for council in SOUND:
            self.assertTrue(councils.is_sound(councils.with_firm(council, 1)))
            for some in samples.sets_of(range(len(council))):
                self.assertTrue(councils.is_sound(councils.with_asker(council, some)))
            for k in range(len(council)):
                self.assertTrue(councils.is_sound(councils.made_firm(council, k, 1)))
            for asker in reckoning.askers(council):
                for goal in set(range(len(council))) - set(council[asker]) - {asker}:
                    self.assertTrue(councils.is_sound(councils.with_arc(council, asker, goal)))

    def test_without_arc_sound_just_if_roads_lead_past_it(self):
        for council in SOUND[::3]:
            told = reckoning.all_roads(council)
            for arc in reckoning.arcs(council):
                if len(council[arc[0]]) == 1:
                    continue
                past = {road[0] for road in told if isinstance(council[road[-1]], int)
                        and arc not in zip(road, road[1:])}
                sound = councils.is_sound(councils.without_arc(council, *arc))
                self.assertEqual(sound, past == set(range(len(council))))
                self.assertEqual(sound, arc not in councils.needed_arcs(council))

    def test_a_part_holds_the_same(self):
        for seed, council in enumerate(SOUND[::2]):
            weights = samples.weights_for(council, seed)
            voice = voices.voice_by(council, weights)
            for k in range(len(council)):
                kept = councils.reached(council, k)
                part = councils.part_of(council, k)
                told = voices.voice_by(part, tuple(weights[n] for n in kept))
                self.assertEqual(told[kept.index(k)], voice[k])
                self.assertEqual(told, tuple(voice[n] for n in kept))

    def test_any_one_made_firm_where_each_reaches_each(self):
        seen = 0
        for council in SMALL:
            chosen = reckoning.askers(council)
            if all(set(chosen) <= set(reckoning.reached(council, k)) for k in chosen):
                for k in chosen:
                    seen += 1
                    self.assertTrue(councils.is_sound(councils.made_firm(council, k, 2)))
        self.assertGreater(seen, 50)


class Great(unittest.TestCase):
    """COUNCILS at the bounds: 16 MEMBERS, 10 askers that ask 5 each."""

    def test_reach(self):
        for council in (BIG, WIDE):
            self.assertTrue(councils.is_council(council))
            self.assertEqual(len(council), 16)
            self.assertEqual([len(council[k]) for k in councils.askers(council)], [5] * 10)
            self.assertEqual(len(councils.arcs_of(council)), 50)
            self.assertTrue(councils.is_sound(council))
            self.assertEqual(councils.needed_arcs(council), ())
            self.assertEqual(councils.in_rings(council), tuple(range(6, 16)))
        self.assertEqual(councils.reached(BIG, 6), (0, 6, 7, 8, 9, 10))
        self.assertEqual(councils.reaching(BIG, 1), (1, 11, 12, 13, 14, 15))
        self.assertEqual(councils.reaching(BIG, 2), (2,))
        self.assertEqual(councils.together(BIG)[-2:], ((6, 7, 8, 9, 10), (11, 12, 13, 14, 15)))
        self.assertEqual(councils.reached(WIDE, 6), tuple(range(16)))
        self.assertEqual(councils.together(WIDE)[-1], tuple(range(6, 16)))

    def test_short_ones(self):
        self.assertEqual(councils.shortest_ring(BIG, 15), (15, 11))
        self.assertEqual(councils.shortest_road(BIG, 15, 1), (15, 1))
        self.assertIsNone(councils.shortest_road(BIG, 15, 0))
        self.assertEqual(councils.shortest_road(WIDE, 6, 11), (6, 7, 11))
        self.assertEqual(councils.shortest_ring(WIDE, 6), (6, 7, 9))

    def test_great_numbers(self):
        council = councils.with_firm((5, (0,)), -10 ** 30)
        self.assertEqual(councils.made_firm(council, 0, 10 ** 30), (10 ** 30, (0,), -10 ** 30))

    def test_roads_of_seven_askers(self):
        """Seven askers, each asking five: as many ROADS as a plain search finds."""
        council = (1, 2) + tuple(tuple(sorted({(k + s) % 7 + 2 for s in (1, 2, 4, 6)} | {k % 2})) for k in range(7))

        def search(road):
            found = [road] if road[-1] == 1 else []
            for goal in reckoning.asks(council, road[-1]):
                if goal not in road:
                    found += search(road + (goal,))
            return found

        self.assertEqual(councils.roads(council, 2, 1), sorted(search((2,))))


if __name__ == "__main__":
    unittest.main()
