"""Promise 8: GATES, each function held against a plain reckoning over all ROADS, and the guarantees."""

import unittest
from itertools import product

from tests import reckoning, samples
from tests.samples import BIG, LONG, MADE, MANY, SOUND, WIDE
from whomheeds import gates, voices

KIN, SPLIT = ((1,), (2, 3), (1, 3), (4, 5), 6, 2), ((1, 2), (2, 4), (1, 3), 6, 6)
SOME = SOUND[::5] + MADE + [KIN, SPLIT, ((1, 3), (0, 4), (0, 1), 2, 9), (7,), (7, 7, 8), ((1,), (2, 3), 0, 1),
                            (5, (0, 2), (1,)), (4, 4, (0, 1, 3), (1, 2)), (1, (0,), (1,), (2,)), (9, 9, (0,), (1,))]
GREAT = (BIG, WIDE, LONG, MANY)


def gates_of(council, member):
    """Those on all ROADS to firm ones, in the order of the first one, and of every other one."""
    told = reckoning.firm_roads(council, member)
    found = [tuple(k for k in road if all(k in other for other in told)) for road in told]
    assert len(set(found)) == 1
    return found[0]


def pairs(council):
    return list(product(range(len(council)), repeat=2))


def lots(row):
    """The set of the sets of places with one and the same part."""
    return tuple(sorted({tuple(k for k, other in enumerate(row) if other == part) for part in row}))


def apart(council, one, other):
    """All pairs of ROADS from both to firm ones without a MEMBER in common."""
    return [(road, back) for road in reckoning.firm_roads(council, one)
            for back in reckoning.firm_roads(council, other) if not set(road) & set(back)]


class Gates(unittest.TestCase):

    def test_gates(self):
        for council in SOME:
            told = [gates_of(council, member) for member in range(len(council))]
            for member, right in enumerate(told):
                self.assertEqual(gates.gates(council, member), right)
                self.assertEqual(gates.next_gate(council, member), right[1] if len(right) > 1 else None)
                self.assertEqual(gates.leader(council, member), right[-1])
                kept = tuple(k for k in range(len(council)) if member in told[k])
                self.assertEqual(gates.led_by(council, member), kept)
                for other in range(len(council)):
                    self.assertIs(gates.is_gate(council, member, other), other in right)
            self.assertEqual(gates.lots_by_leader(council), lots([row[-1] for row in told]))

    def test_gates_of_a_gate_are_those_from_it_on(self):
        for council in SOME:
            for member in range(len(council)):
                told = gates.gates(council, member)
                for place, gate in enumerate(told):
                    self.assertEqual(gates.gates(council, gate), told[place:])

    def test_common_gates(self):
        for council in SOME:
            for some in samples.sets_of(range(len(council)))[:40]:
                told = [gates_of(council, member) for member in some]
                right = tuple(gate for gate in told[0] if all(gate in row for row in told))
                self.assertEqual(gates.common_gates(council, some), right)

    def test_of_firm_ones(self):
        self.assertEqual(gates.gates((7, 8, (0, 1)), 1), (1,))
        self.assertEqual(gates.led_by((7, (0,), (1,)), 0), (0, 1, 2))
        self.assertEqual(gates.gates((7, (0,), (1,)), 2), (2, 1, 0))
        self.assertEqual(gates.lots_by_leader((7, 7)), ((0,), (1,)))
        self.assertEqual(gates.lots_alike((7, 7)), ((0, 1),))
        self.assertIs(gates.alike((7, 7), 0, 1), True)
        self.assertIs(gates.alike_always((7, 7), 0, 1), False)
        self.assertEqual(gates.apart_roads((7, 7), 0, 1), ((0,), (1,)))
        self.assertIsNone(gates.unlike_roads((7, 7), 0, 1))
        self.assertIsNone(gates.apart_roads((7, 7), 1, 1))
        self.assertEqual(gates.unlike_roads((7, 8), 1, 0), ((1,), (0,)))


class Alike(unittest.TestCase):

    def test_alike_by_followings(self):
        """By the middle: alike FOR ALL WEIGHTS exactly if alike by the ENDS of all FOLLOWINGS."""
        for council in SOME:
            told = [reckoning.ends(row) for row in reckoning.followings(council)]
            for one, other in pairs(council):
                self.assertIs(gates.alike_always(council, one, other), all(row[one] == row[other] for row in told))
                right = all(council[row[one]] == council[row[other]] for row in told)
                self.assertIs(gates.alike(council, one, other), right)
            held = [tuple(council[row[member]] for row in told) for member in range(len(council))]
            self.assertEqual(gates.lots_alike(council), lots(held))

    def test_alike_by_voices(self):
        for seed, council in enumerate(SOME):
            for more in range(2):
                told = voices.voice_by(council, samples.weights_for(council, seed + more))
                for lot in gates.lots_alike(council):
                    self.assertEqual(len({told[member] for member in lot}), 1)
                for lot in gates.lots_by_leader(council):
                    self.assertEqual(len({told[member] for member in lot}), 1)

    def test_each_holds_what_its_gates_hold(self):
        for seed, council in enumerate(SOME):
            told = voices.voice_by(council, samples.weights_for(council, seed))
            for member in range(len(council)):
                self.assertEqual({told[gate] for gate in gates.gates(council, member)}, {told[member]})

    def test_one_and_the_same(self):
        for council in SOME:
            for member in range(len(council)):
                self.assertIs(gates.alike_always(council, member, member), True)
                self.assertIs(gates.alike(council, member, member), True)
                self.assertIsNone(gates.apart_roads(council, member, member))
                self.assertIsNone(gates.unlike_roads(council, member, member))
                self.assertEqual(gates.parting_arcs(council, member, member), ())


class Roads(unittest.TestCase):

    def test_roads(self):
        for council in SOME:
            for one, other in pairs(council):
                right = apart(council, one, other)
                unlike = [told for told in right if council[told[0][-1]] != council[told[1][-1]]]
                made = gates.apart_roads(council, one, other)
                self.assertEqual(made is None, right == [])
                self.assertEqual(gates.alike_always(council, one, other), right == [])
                if made is not None:
                    self.assertIn(made, right)
                    self.assertIs(gates.is_apart_roads(council, one, other, made), True)
                made = gates.unlike_roads(council, one, other)
                self.assertEqual(made is None, unlike == [])
                self.assertEqual(gates.alike(council, one, other), unlike == [])
                if made is not None:
                    self.assertIn(made, unlike)
                    self.assertIs(gates.is_unlike_roads(council, one, other, made), True)

    def test_a_road_may_have_to_give_way(self):
        """The short way from one leads by the only one that other can go by, or by other itself."""
        council = (1, 2, (0, 3), (4,), (5, 1), (0,), (4,))
        self.assertEqual(gates.apart_roads(council, 2, 6), ((2, 0), (6, 4, 1)))
        council = ((1, 2), (3,), (1, 4), 5, 6)
        self.assertEqual(gates.apart_roads(council, 0, 1), ((0, 2, 4), (1, 3)))
        self.assertEqual(gates.apart_roads(council, 1, 0), ((1, 3), (0, 2, 4)))
        council = ((2, 3), (2,), (4,), (5,), 8, 8, (0, 1))
        self.assertEqual(gates.apart_roads(council, 0, 1), ((0, 3, 5), (1, 2, 4)))
        self.assertIsNone(gates.unlike_roads(council, 0, 1))

    def test_parting_arcs(self):
        for council in SOME:
            ways = {}
            for one, other in pairs(council):
                right = []
                if not apart(council, one, other):
                    for asker in reckoning.askers(council):
                        for goal in range(len(council)):
                            if goal != asker and goal not in council[asker]:
                                if (asker, goal) not in ways:
                                    more = tuple(sorted(council[asker] + (goal,)))
                                    ways[asker, goal] = council[:asker] + (more,) + council[asker + 1:]
                                if apart(ways[asker, goal], one, other):
                                    right.append((asker, goal))
                self.assertEqual(gates.parting_arcs(council, one, other), tuple(right))


class Great(unittest.TestCase):
    """COUNCILS at the bounds, most with more than a million FOLLOWINGS."""

    def test_gates(self):
        for council in GREAT:
            table = [gates.gates(council, member) for member in range(len(council))]
            self.assertEqual([row[0] for row in table], list(range(len(council))))
            leaders = [row[-1] for row in table]
            self.assertEqual(leaders, [gates.leader(council, member) for member in range(len(council))])
            self.assertEqual(gates.lots_by_leader(council), lots(leaders))
            for member in range(len(council)):
                led = tuple(k for k in range(len(council)) if member in table[k])
                self.assertEqual(gates.led_by(council, member), led)
                self.assertEqual(gates.next_gate(council, member), (table[member] + (None,))[1])
                told = [gates.is_gate(council, k, member) for k in range(len(council))]
                self.assertEqual(told, [member in row for row in table])
        self.assertEqual(gates.gates(BIG, 9), (9, 0))
        self.assertEqual(gates.led_by(BIG, 1), (1, 11, 12, 13, 14, 15))
        self.assertEqual(gates.common_gates(BIG, (6, 7, 8, 9, 10)), (0,))
        self.assertEqual(gates.gates(WIDE, 9), (9,))
        self.assertEqual(gates.gates(MANY, 14), (14, 13))

    def test_roads(self):
        for council in GREAT:
            for one, other in pairs(council):
                made = gates.apart_roads(council, one, other)
                self.assertEqual(made is None, gates.alike_always(council, one, other))
                if made is not None:
                    self.assertIs(gates.is_apart_roads(council, one, other, made), True)
                    self.assertEqual(set(made[0]) & set(made[1]), set())
                made = gates.unlike_roads(council, one, other)
                self.assertEqual(made is None, gates.alike(council, one, other))
                if made is not None:
                    self.assertIs(gates.is_unlike_roads(council, one, other, made), True)
                    self.assertNotEqual(council[made[0][-1]], council[made[1][-1]])

    def test_lots_alike(self):
        """Held against two voices: WEIGHTS by which unlike ones hold the same by chance are not among these."""
        for council in GREAT:
            told = [voices.voice_by(council, samples.weights_for(council, seed)) for seed in (3, 4)]
            self.assertEqual(gates.lots_alike(council), lots(list(zip(*told))))

    def test_parting_arcs(self):
        self.assertEqual(gates.parting_arcs(WIDE, 6, 7), ())
        told = gates.parting_arcs(BIG, 6, 7)
        self.assertEqual(told, tuple((asker, goal) for asker in range(6, 11) for goal in range(16)
                                     if goal != 0 and not 6 <= goal <= 10))


if __name__ == "__main__":
    unittest.main()
