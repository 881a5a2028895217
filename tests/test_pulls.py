"""Promise 15: more and less heed, held against a plain reckoning over all FOLLOWINGS, and the guarantees."""

import unittest
from fractions import Fraction
from itertools import product

from tests import reckoning, samples
from tests.samples import BIG, LONG, MADE, MANY, SOUND, WIDE
from whomheeds import councils, pulls, voices
from whomheeds.errors import Unfit

SOME = list(enumerate(SOUND[::9] + MADE[::2] + [(7,), (7, 7), (5, (0, 2), (1,)), (3, 3, (0, 1, 3), (1, 2)), (0, 6, (0, 3), (1, 2)),
                                                (0, 6, (0, 3), (1, 2), (3,), (0, 1)), (5, (0,), (1,), (2,))]))
ENDS = {}


def all_ends(council):
    if council not in ENDS:
        ENDS[council] = sorted({reckoning.ends(row) for row in reckoning.followings(council)})
    return ENDS[council]


def word_for(values):
    """The word by the values of what the MEMBER holds less what the asker does, by all ENDS."""
    low, high = min(values), max(values)
    if low == high == 0:
        return "none"
    if low >= 0:
        return "up"
    return "down" if high <= 0 else "either"


def gaps(council, asker, member):
    return [council[ends[member]] - council[ends[asker]] for ends in all_ends(council)]


def others(council, asker):
    return [member for member in range(len(council)) if member != asker]


def less_arc(council, asker, goal):
    """The COUNCIL without this arc; None if it is none or is not sound."""
    rest = tuple(other for other in council[asker] if other != goal)
    narrow = council[:asker] + (rest,) + council[asker + 1:]
    return narrow if rest and all(reckoning.firm_roads(narrow, k) for k in range(len(council))) else None


class Words(unittest.TestCase):

    def test_pull(self):
        seen = set()
        for _, council in SOME:
            for asker in reckoning.askers(council):
                right = tuple((member, word_for(gaps(council, asker, member))) for member in others(council, asker))
                self.assertEqual(pulls.pulls(council, asker), right)
                for member, word in right:
                    self.assertEqual(pulls.pull(council, asker, member), word)
                    seen.add(word)
        self.assertEqual(seen, {"up", "down", "none", "either"})

    def test_words_of_the_voice(self):
        for seed, council in SOME:
            voice = reckoning.voice(council, samples.weights_for(council, seed))
            for asker in reckoning.askers(council):
                for member, word in pulls.pulls(council, asker):
                    if word != "either":
                        right = (voice[member] > voice[asker]) - (voice[member] < voice[asker])
                        self.assertEqual({"up": 1, "down": -1, "none": 0}[word], right)

    def test_fixing(self):
        for _, council in SOME:
            for asker in reckoning.askers(council):
                held = [council[ends[asker]] for ends in all_ends(council)]
                for number in {n + more for n in held for more in (-1, 0, 1)} | {0, 10 ** 30, -10 ** 30}:
                    self.assertEqual(pulls.fixing(council, asker, number), word_for([number - n for n in held]))


class Papers(unittest.TestCase):

    def test_papers(self):
        for _, council in SOME:
            for asker in reckoning.askers(council):
                for member, word in pulls.pulls(council, asker):
                    for claimed in ("up", "down", "none"):
                        made = pulls.pull_paper(council, asker, member, claimed)
                        self.assertEqual(made is None, claimed == word)
                        if made is not None:
                            self.assertTrue(self.is_paper(council, asker, member, claimed, made))
                            self.assertIs(pulls.is_pull_paper(council, asker, member, claimed, made), True)

    def is_paper(self, council, asker, member, word, weights):
        if not reckoning.is_weights(council, weights):
            return False
        voice = reckoning.voice(council, weights)
        more = voice[member] - voice[asker]
        return {"up": more <= 0, "down": more >= 0, "none": more != 0}[word]

    def test_is_pull_paper(self):
        seen = {True: 0, False: 0}
        for seed, council in SOME:
            for weights in (samples.weights_for(council, seed), samples.rows_for(council, seed, 10 ** 40, 7)):
                for asker in reckoning.askers(council):
                    for member, word in product(others(council, asker), ("up", "down", "none")):
                        right = self.is_paper(council, asker, member, word, weights)
                        self.assertIs(pulls.is_pull_paper(council, asker, member, word, weights), right)
                        seen[right] += 1
        self.assertGreater(min(seen.values()), 100)


    def test_edges(self):
        """More by the least that can be; and numbers far on both sides of 0."""
        council, even = (0, 1, (0, 1), (0,)), ((), (), (1, 1), (1,))
        for member, answers in ((1, (False, True, True)), (0, (True, False, True)), (3, (True, False, True))):
            made = tuple(pulls.is_pull_paper(council, 2, member, word, even) for word in ("up", "down", "none"))
            self.assertEqual(made, answers)
        self.assertIs(pulls.is_pull_paper((0, 2, (0, 1), 1), 2, 3, "none", ((), (), (1, 1), ())), False)
        far = (-10 ** 30, 10 ** 30, (0, 1), (0, 1))
        made = pulls.pull_paper(far, 2, 3, "none")
        self.assertTrue(self.is_paper(far, 2, 3, "none", made))
        made = pulls.weights_apart(far[:3] + ((2, 0), (1, 2)), 4, 4)
        self.assertIs(pulls.is_weights_apart(far[:3] + ((2, 0), (1, 2)), 4, 4, made), True)


class Matter(unittest.TestCase):

    def test_whose_matter(self):
        """As the guarantee tells: it is reached, and two that it asks end at unlike numbers by some FOLLOWING."""
        for _, council in SOME:
            unlike = [asker for asker in reckoning.askers(council)
                      if any(len({council[ends[goal]] for goal in council[asker]}) > 1 for ends in all_ends(council))]
            for member in range(len(council)):
                reach = {k for k in range(len(council)) if self.reaches(council, member, k)}
                self.assertEqual(pulls.whose_matter(council, member), tuple(k for k in unlike if k in reach))

    def reaches(self, council, member, goal):
        seen, ahead = {member}, [member]
        while ahead:
            more = set(reckoning.asks(council, ahead.pop())) - seen
            seen |= more
            ahead += more
        return goal in seen

    def test_weights_apart(self):
        for _, council in SOME:
            for asker, member in product(reckoning.askers(council), range(len(council))):
                made = pulls.weights_apart(council, asker, member)
                self.assertEqual(made is not None, asker in pulls.whose_matter(council, member))
                if made is not None:
                    self.assertIs(type(made), tuple)
                    one, more = made
                    self.assertTrue(reckoning.is_weights(council, one) and reckoning.is_weights(council, more))
                    self.assertEqual([k for k in range(len(council)) if one[k] != more[k]], [asker])
                    self.assertNotEqual(reckoning.voice(council, one)[member], reckoning.voice(council, more)[member])
                    self.assertIs(pulls.is_weights_apart(council, asker, member, made), True)
                    self.assertIs(pulls.is_weights_apart(council, asker, member, made[::-1]), True)
                    self.assertIs(pulls.is_weights_apart(council, asker, member, (one, one)), False)

    def test_weights_that_do_not_matter_change_nothing(self):
        for seed, council in SOME:
            weights = samples.weights_for(council, seed)
            voice = reckoning.voice(council, weights)
            for asker in reckoning.askers(council):
                row = tuple(n * 3 + k + 1 for k, n in enumerate(weights[asker]))
                after = weights[:asker] + (row,) + weights[asker + 1:]
                told = reckoning.voice(council, after)
                for member in range(len(council)):
                    if asker not in pulls.whose_matter(council, member):
                        self.assertEqual(told[member], voice[member])
                    self.assertIs(pulls.is_weights_apart(council, asker, member, (weights, after)), told[member] != voice[member])


class Guarantees(unittest.TestCase):
    """By whatever WEIGHTS: who rises, who sinks, who stays."""

    def check_moves(self, council, asker, held, before, after):
        """All that reach the asker go as what stands there now, held, stood to what the asker held; nobody else."""
        way = (held > before[asker]) - (held < before[asker])
        for member in range(len(council)):
            moved = (after[member] > before[member]) - (after[member] < before[member])
            self.assertEqual(moved, way if member in councils.reaching(council, asker) else 0)

    def test_more_and_less_weight(self):
        for seed, council in SOME:
            weights = samples.weights_for(council, seed)
            before = reckoning.voice(council, weights)
            for asker, goal in reckoning.arcs(council):
                number = weights[asker][council[asker].index(goal)]
                more = voices.with_weight(council, weights, asker, goal, number * 3 + 1)
                after = reckoning.voice(council, more)
                self.check_moves(council, asker, before[goal], before, after)
                # The other way about if it gives less weight: as what it held stood to that MEMBER's.
                self.check_moves(council, asker, 2 * after[asker] - after[goal], after, before)

    def test_asks_anew_and_no_more(self):
        for seed, council in SOME:
            for asker, goal in product(reckoning.askers(council), range(len(council))):
                if goal == asker or goal in council[asker]:
                    continue
                wider = councils.with_arc(council, asker, goal)
                weights = samples.weights_for(wider, seed)
                row = weights[asker]
                place = wider[asker].index(goal)
                narrow = weights[:asker] + (row[:place] + row[place + 1:],) + weights[asker + 1:]
                before, after = reckoning.voice(council, narrow), reckoning.voice(wider, weights)
                self.check_moves(wider, asker, before[goal], before, after)
                self.check_moves(wider, asker, 2 * after[asker] - after[goal], after, before)

    def test_made_firm(self):
        for seed, council in SOME:
            weights = samples.weights_for(council, seed)
            before = reckoning.voice(council, weights)
            for member in range(len(council)):
                for number in {int(before[member]), int(before[member]) + 1, -5, 10 ** 30}:
                    after = reckoning.voice(councils.made_firm(council, member, number),
                                            weights[:member] + ((),) + weights[member + 1:])
                    self.check_moves(council, member, number, before, after)

    def test_arcs_more_tell_no_less(self):
        for _, council in SOME:
            for asker, goal in product(reckoning.askers(council), range(len(council))):
                if goal != asker and goal not in council[asker]:
                    self.assertIs(pulls.tells_no_more(council, councils.with_arc(council, asker, goal)), True)


class Tables(unittest.TestCase):

    def test_ends_table(self):
        for _, council in SOME:
            self.assertEqual(pulls.ends_table(council), tuple(all_ends(council)))

    def test_can_end_and_following_to(self):
        seen = 0
        for _, council in SOME:
            told = set(all_ends(council))
            options = [reckoning.firm_ones(council) if reckoning.asks(council, k) else (k,) for k in range(len(council))]
            for ends in list(product(*options))[:400]:
                self.check_ends(council, ends, told)
                seen += ends not in told
            for ends in list(told)[:6]:
                for place in range(len(council)):
                    for number in (-1, len(council), ends[place] - 1, place, 10 ** 30):
                        self.check_ends(council, ends[:place] + (number,) + ends[place + 1:], told)
        self.assertGreater(seen, 200)

    def check_ends(self, council, ends, told):
        self.assertIs(pulls.can_end(council, ends), ends in told)
        if ends in told:
            made = pulls.following_to(council, ends)
            self.assertIn(made, reckoning.followings(council))
            self.assertEqual(reckoning.ends(made), ends)
        else:
            with self.assertRaises(Unfit):
                pulls.following_to(council, ends)

    def test_great(self):
        """Some millions of FOLLOWINGS."""
        for council in (BIG, WIDE, LONG):
            for word in (min, max):
                row = tuple(k if isinstance(part, int) else word(part) for k, part in enumerate(council))
                if any(reckoning.end_of(row, k) is None for k in range(len(row))):
                    continue
                ends = reckoning.ends(row)
                self.assertIs(pulls.can_end(council, ends), True)
                self.assertEqual(reckoning.ends(pulls.following_to(council, ends)), ends)
        self.assertIs(pulls.can_end(BIG, (0, 1, 2, 3, 4, 5) + (0,) * 5 + (1,) * 5), True)
        self.assertIs(pulls.can_end(BIG, (0, 1, 2, 3, 4, 5) + (0,) * 5 + (1,) * 4 + (0,)), False)
        made = pulls.following_to(WIDE, (0, 1, 2, 3, 4, 5) + (0, 1, 2, 3, 4, 5, 0, 1, 2, 3))
        self.assertEqual(made, (0, 1, 2, 3, 4, 5) + (0, 1, 2, 3, 4, 5, 0, 1, 2, 3))

    def test_many(self):
        """Near 2,000 FOLLOWINGS, at the bounds."""
        self.assertEqual(pulls.ends_table(MANY), tuple(all_ends(MANY)))
        for asker in (6, 9, 15):
            for member, word in pulls.pulls(MANY, asker):
                self.assertEqual(word, word_for(gaps(MANY, asker, member)))
                made = pulls.pull_paper(MANY, asker, member, "down")
                self.assertEqual(made is None, word == "down")
                if made is not None:
                    self.assertIs(pulls.is_pull_paper(MANY, asker, member, "down", made), True)
                made = pulls.weights_apart(MANY, asker, member)
                self.assertEqual(made is not None, asker in pulls.whose_matter(MANY, member))
                if made is not None:
                    self.assertIs(pulls.is_weights_apart(MANY, asker, member, made), True)
        narrow = councils.without_arc(MANY, 6, 7)
        self.assertIs(pulls.tells_no_more(narrow, MANY), True)
        wish = pulls.parting_wish(MANY, narrow)
        self.assertIs(pulls.is_parting_wish(MANY, narrow, wish), True)
        self.assertLess(min(reckoning.wish_by(wish, ends) for ends in all_ends(MANY)), 0)
        self.assertGreaterEqual(min(reckoning.wish_by(wish, ends) for ends in all_ends(narrow)), 0)


class Telling(unittest.TestCase):

    def pairs(self):
        """Pairs of COUNCILS of as many MEMBERS, the same ones firm; arcs fewer, others, other numbers."""
        for seed, council in SOME:
            yield council, council
            changed = tuple(part + 3 if isinstance(part, int) else part for part in council)
            yield council, changed
            for asker, goal in reckoning.arcs(council)[:4]:
                narrow = less_arc(council, asker, goal)
                if narrow:
                    yield narrow, council
                    yield changed, narrow
            for _, other in SOME[seed % 5::5]:
                if len(other) == len(council) and reckoning.firm_ones(other) == reckoning.firm_ones(council):
                    yield council, other

    def test_tells_no_more(self):
        seen = {True: 0, False: 0}
        for one, other in self.pairs():
            right = set(all_ends(one)) <= set(all_ends(other))
            seen[right] += 1
            self.assertIs(pulls.tells_no_more(one, other), right)
            wish = pulls.parting_wish(one, other)
            self.assertEqual(wish is None, right)
            if wish is not None:
                self.assertGreaterEqual(min(reckoning.wishes(other, wish)), 0)
                self.assertLess(min(reckoning.wishes(one, wish)), 0)
                self.assertIs(pulls.is_parting_wish(one, other, wish), True)
                self.assertIs(pulls.is_parting_wish(other, one, wish), False)
        self.assertGreater(min(seen.values()), 30)

    def test_wishes_by_weights(self):
        """What tells no more, tells of WISHES that are at least 0 by all WEIGHTS of the other one."""
        for seed, (one, other) in enumerate(self.pairs()):
            wish = samples.wish_for(one, seed)
            if pulls.tells_no_more(one, other) and min(reckoning.wishes(other, wish)) >= 0:
                value = Fraction(*voices.wish_at(one, samples.weights_for(one, seed), wish))
                self.assertGreaterEqual(value, 0)

    def test_not_alike(self):
        for one, other in (((5, 6), (5,)), ((5, (0,)), (5, 6)), ((5, (0,)), ((1,), 5)), ((5, 6, (0,)), (5, (0,), (0,))),
                           ((5, (0,)), (5, (0,), (0,))), ((5, (0,), (0, 1)), (5, (0,)))):
            for function, more in ((pulls.tells_no_more, ()), (pulls.parting_wish, ()), (pulls.is_parting_wish, (None,))):
                with self.assertRaises(Unfit):
                    function(one, other, *more)

    def test_needless_arcs(self):
        seen = 0
        for _, council in SOME:
            right = tuple(arc for arc in reckoning.arcs(council) if self.is_needless(council, arc))
            seen += len(right)
            self.assertEqual(pulls.needless_arcs(council), right)
            lean = council
            for arc in reckoning.arcs(council):
                if self.is_needless(lean, arc):
                    lean = less_arc(lean, *arc)
            self.assertEqual(pulls.lean_council(council), lean)
            self.assertEqual(all_ends(lean), all_ends(council))
            self.assertEqual(pulls.needless_arcs(lean), ())
        self.assertGreater(seen, 10)

    def is_needless(self, council, arc):
        narrow = less_arc(council, *arc)
        return narrow is not None and all_ends(narrow) == all_ends(council)


if __name__ == "__main__":
    unittest.main()
