"""Promise 19: one judge, held against a plain reckoning of each kind of CLAIM, and the guarantees."""

import unittest
from itertools import combinations

from tests import calls_more, claims, reckoning, samples
from tests.samples import BIG, LONG, MADE, MANY, SOUND, WIDE
from whomheeds import buyers, gates, judge, lots, orders, pulls, ranges, rounds, sums, unknown
from whomheeds import bounds as bounds_file
from whomheeds.errors import Unfit

SOME = list(enumerate(SOUND[::29] + MADE[::7] + [(7,), (7, 7), (5, (0, 2), (1,)), (3, 3, (0, 1, 3), (1, 2)),
                                                 (0, 10, (0, 1), (1, 2))]))
FEW = [(seed, council) for seed, council in SOME if len(reckoning.arcs(council)) <= 8]
NUMBERED = ("least", "above", "wish", "bounds", "heeds", "talk")
CLAIMS = {council: claims.claims_for(council, seed) for seed, council in SOME}


def cases():
    return [(council, claim) for _, council in SOME for claim in CLAIMS[council]]


def narrower(council, some):
    """The COUNCIL without these arcs; None if it is none or is not sound."""
    narrow = tuple(part if isinstance(part, int) else tuple(goal for goal in part if (k, goal) not in some)
                   for k, part in enumerate(council))
    if () in narrow or not all(reckoning.firm_roads(narrow, k) for k in range(len(narrow))):
        return None
    return narrow


class Judged(unittest.TestCase):

    def test_stands(self):
        """A CLAIM stands exactly if there is no PAPER against it."""
        seen = {}
        for council, claim in cases():
            with self.subTest(council=council, claim=claim):
                right = claims.does_stand(council, claim)
                seen[claim[0], right] = seen.get((claim[0], right), 0) + 1
                self.assertIs(judge.is_claim(council, claim), True)
                self.assertIs(judge.stands(council, claim), right)
                made = judge.paper_against(council, claim)
                self.assertEqual(made is None, right)
                if made is not None:
                    self.assertTrue(claims.is_paper(council, claim, made))
                    self.assertIs(judge.is_paper_against(council, claim, made), True)
        self.assertEqual(len(seen), 22)
        self.assertGreaterEqual(min(seen.values()), 10)

    def test_papers_by_the_words_of_the_table(self):
        """WEIGHTS, roads, talks of all kinds, most of which are no PAPERS."""
        seen = {}
        for seed, council in SOME:
            weights = samples.weights_for(council, seed)
            arcs = reckoning.arcs(council)
            things = [weights, samples.rows_for(council, 2, 10 ** 35, 9), samples.weights_for(council, seed + 1)]
            for asker, goal in arcs[:3]:
                row = tuple(n + (other == goal) for n, other in zip(weights[asker], council[asker]))
                things += [(weights, weights[:asker] + (row,) + weights[asker + 1:])]
                things += [things[-1][::-1]]
            things += [(), (weights,), (weights, weights), things[:2], None]
            things += [road for k in range(len(council)) for road in reckoning.firm_roads(council, k)][:6]
            for claim in CLAIMS[council]:
                for thing in things:
                    right = claims.is_paper(council, claim, thing)
                    seen[claim[0], right] = seen.get((claim[0], right), 0) + 1
                    self.assertIs(judge.is_paper_against(council, claim, thing), right, (council, claim, thing))
        self.assertEqual({kind for kind, right in seen if right} | {"voice", "order"},
                         {kind for kind, right in seen if not right})

    def test_edges(self):
        """Equal numbers: never below one is not always above it."""
        council = (0, 10, (0, 1), (1, 2))
        for total, low in (((0, 0, 1, 0), 0), ((0, 0, -1, 1), 0)):
            self.assertIs(judge.stands(council, ("least", total, low)), True)
            self.assertIs(judge.stands(council, ("above", total, low)), True)
            self.assertIs(judge.stands(council, ("least", total, low + 1)), False)
        self.assertIs(judge.stands(council, ("least", (0, 1, 0, 0), 10)), True)
        self.assertIs(judge.stands(council, ("above", (0, 1, 0, 0), 10)), False)
        self.assertIs(judge.stands(council, ("above", (0, 1, 0, 0), 9)), True)
        self.assertIs(judge.is_paper_against(council, ("above", (0, 1, 0, 0), 10), ((), (), (1, 1), (1, 1))), True)
        self.assertIs(judge.stands(council, ("bought", (), 99, ())), True)
        self.assertIs(judge.stands(council, ("wish", (), 0)), True)
        self.assertIs(judge.stands(council, ("wish", (), 1)), False)
        self.assertEqual(judge.paper_against(council, ("talk", (0, 10, 3, 4), 0, (0, 0, 1, 0), 4)), ())
        self.assertEqual(judge.best_claim(council, ("above", (0, 1, 0, 0), -5)), ("above", (0, 1, 0, 0), 9))
        self.assertEqual(judge.best_claim(council, ("wish", (), -5)), ("wish", (), 0))

    def test_first_fallen(self):
        for _, council in SOME:
            rows = CLAIMS[council]
            for part in (rows, rows[::-1], rows[::3], [claim for claim in rows if claims.does_stand(council, claim)], ()):
                right = next((place for place, claim in enumerate(part) if not claims.does_stand(council, claim)), None)
                made = judge.first_fallen(council, tuple(part))
                if right is None:
                    self.assertIsNone(made)
                else:
                    self.assertEqual(made[0], right)
                    self.assertTrue(claims.is_paper(council, part[right], made[1]))
            with self.assertRaises(Unfit):
                judge.first_fallen(council, tuple(rows) + (("like", 0, len(council)),))

    def test_broken_by(self):
        seen = 0
        for seed, council in SOME:
            for asker, goal in reckoning.arcs(council)[:2]:
                narrow = narrower(council, [(asker, goal)])
                for one, other in ((council, narrow), (narrow, council)):
                    if narrow is None:
                        continue
                    rows = CLAIMS[council] + [("like", 0, 99), "like", None, 3, ("up",)]
                    right = tuple(place for place, claim in enumerate(rows) if self.is_broken(one, other, claim))
                    seen += len(right)
                    self.assertEqual(judge.broken_by(one, other, tuple(rows)), right)
            short = council[:1] if isinstance(council[0], int) else (5,)
            self.assertEqual(judge.broken_by(council, short, tuple(CLAIMS[council])),
                             tuple(place for place, claim in enumerate(CLAIMS[council])
                                   if judge.is_claim(short, claim) and self.is_broken(council, short, claim)))
        self.assertGreater(seen, 20)

    def is_broken(self, one, other, claim):
        if not judge.is_claim(one, claim) or not judge.is_claim(other, claim):
            return False
        return claims.does_stand(one, claim) and not claims.does_stand(other, claim)

    def test_best_claim(self):
        """One more does not stand."""
        for council, claim in cases():
            if claim[0] not in NUMBERED:
                with self.assertRaises(Unfit):
                    judge.best_claim(council, claim)
                continue
            made = judge.best_claim(council, claim)
            self.assertEqual(made[:-1], claim[:-1])
            self.assertTrue(claims.does_stand(council, made))
            self.assertFalse(claims.does_stand(council, made[:-1] + (made[-1] + 1,)))
            self.assertIs(judge.stands(council, made[:-1] + (made[-1] + 1,)), False)
            self.assertIs(type(made), tuple)


class Arcs(unittest.TestCase):

    def test_fewest_arcs_out(self):
        seen = set()
        for seed, council in FEW:
            arcs = reckoning.arcs(council)
            for claim in CLAIMS[council]:
                if claim[0] not in ("least", "wish", "like"):
                    with self.assertRaises(Unfit):
                        judge.fewest_arcs_out(council, claim)
                    continue
                right = None
                for many in range(len(arcs) + 1):
                    good = [some for some in combinations(arcs, many) if narrower(council, some) is not None
                            and claims.does_stand(narrower(council, some), claim)]
                    if good:
                        right = min(good)
                        break
                seen.add(None if right is None else len(right))
                self.assertEqual(judge.fewest_arcs_out(council, claim), right)
        self.assertTrue({None, 0, 1, 2} <= seen, seen)

    def test_with_fewer_arcs(self):
        """The guarantee: what stands of these kinds does so with fewer arcs, too."""
        for council, claim in cases():
            if claim[0] in ("least", "wish", "like", "order") and claims.does_stand(council, claim):
                for arc in reckoning.arcs(council):
                    narrow = narrower(council, [arc])
                    if narrow is not None:
                        self.assertIs(judge.stands(narrow, claim), True)
                        self.assertNotIn(0, judge.broken_by(council, narrow, (claim,)))


class Agreement(unittest.TestCase):
    """A CLAIM and the functions of its point tell the same."""

    def test_points(self):
        for council, claim in cases():
            stands, told = judge.stands(council, claim), claim[1:]
            if claim[0] == "least":
                self.assertIs(sums.holds(council, *told), stands)
            elif claim[0] == "above":
                self.assertIs(sums.sign_of(council, told[0]) == "above" if told[1] == 0 else stands, stands)
                if sum(map(abs, told[0])) == 1 and max(told[0]) == 1:
                    self.assertIs(ranges.always_above(council, told[0].index(1), told[1]), stands)
            elif claim[0] == "wish":
                self.assertIs(sums.against_wish(council, *told) is None, stands)
            elif claim[0] == "like":
                self.assertIs(gates.alike(council, *told), stands)
                self.assertIs(sums.beside(council, *told) == "alike", stands)
            elif claim[0] == "voice":
                self.assertIs(not orders.can_be_voice(council, *told), stands)
            elif claim[0] == "bounds":
                low = bounds_file.least_within(council, told[0], told[1])
                self.assertIs(low[0] >= told[2] * low[1], stands)
                if told[2] == 0:
                    self.assertIs(bounds_file.against_within(council, told[0], told[1]) is None, stands)
            elif claim[0] == "heeds":
                self.assertIs(lots.holds_heeded(council, *told), stands)
            elif claim[0] == "order":
                self.assertIs(unknown.holds_in_order(council, *told), stands)
            elif claim[0] == "pull" and told[0] != told[1]:
                if told[0] in claims.reached(council, told[2]):
                    self.assertIs(pulls.pull(council, told[0], told[1]) in ("up", "none"), stands)
            elif claim[0] == "bought":
                self.assertIs(buyers.are_sure(council, *told), stands)
            elif claim[0] == "talk":
                self.assertIs(rounds.total_after(council, *told[:3])[0] >= told[3], stands)


class Great(unittest.TestCase):

    def test_kinds_that_go_through_no_followings(self):
        """Millions of FOLLOWINGS."""
        for council in (BIG, WIDE, LONG):
            many = len(council)
            voice = reckoning.told_voice(council, samples.weights_for(council, 3))
            made = judge.paper_against(council, ("voice", voice))
            self.assertEqual(reckoning.told_voice(council, made), voice)
            self.assertIs(judge.is_paper_against(council, ("voice", voice), made), True)
            for one, other in ((6, 7), (6, many - 1), (many - 1, many - 2), (0, 1), (3, 3)):
                made = judge.paper_against(council, ("like", one, other))
                self.assertEqual(made is None, gates.alike(council, one, other))
                if made is not None:
                    told = reckoning.voice(council, made)
                    self.assertNotEqual(told[one], told[other])
                    self.assertIs(judge.is_paper_against(council, ("like", one, other), made), True)
            some = tuple(range(many))[-4:]
            road = judge.paper_against(council, ("bought", some, 3, some[:1]))
            self.assertEqual(road is None, buyers.are_sure(council, some, 3, some[:1]))
            self.assertIs(judge.is_paper_against(council, ("bought", some, 3, some[:1]), road), road is not None)

    def test_at_the_bounds(self):
        total = samples.total_for(MANY, 4)
        values = [sum(n * MANY[end] for n, end in zip(total, reckoning.ends(row))) for row in reckoning.followings(MANY)]
        self.assertEqual(judge.best_claim(MANY, ("least", total, 0))[-1], min(values))
        made = judge.paper_against(MANY, ("least", total, min(values) + 1))
        self.assertIs(judge.is_paper_against(MANY, ("least", total, min(values) + 1), made), True)
        self.assertLess(reckoning.value(MANY, made, total), min(values) + 1)
        self.assertIs(judge.stands(MANY, ("above", total, min(values))), True)
        pull = next(("pull", asker, other, asker) for asker, other in reckoning.arcs(MANY)
                    if pulls.pull(MANY, asker, other) == "either")
        self.assertTrue(claims.is_paper(MANY, pull, judge.paper_against(MANY, pull)))


class Called(unittest.TestCase):

    def test_lists(self):
        council, claim = [0, 10, [0, 1], [1, 2]], ["heeds", [[2, 1, 0]], [0, 0, 1, 0], 5]
        self.assertIs(judge.stands(council, claim), True)
        self.assertEqual(judge.best_claim(council, claim), ("heeds", ((2, 1, 0),), (0, 0, 1, 0), 5))
        self.assertIs(judge.is_claim(council, claim), False)
        paper = judge.paper_against(council, ["pull", 3, 2, 3])
        self.assertIs(judge.is_paper_against(council, ["pull", 3, 2, 3], paper), True)
        self.assertIs(judge.is_paper_against(council, ["pull", 3, 2, 3], list(paper)), False)
        self.assertEqual(judge.first_fallen(council, [claim, ["like", 2, 3]])[0], 1)
        self.assertEqual(judge.broken_by([0, 10, [1], [1, 2]], council, [["like", 2, 3], claim]), (0,))

    def test_claims_of_the_calls(self):
        """Each kind once that stands, once that does not."""
        told = {(claim[0], judge.stands(calls_more.C, claim)) for claim in calls_more.CLAIMS}
        self.assertEqual(len({kind for kind, _ in told}), 11)


if __name__ == "__main__":
    unittest.main()
