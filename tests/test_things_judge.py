"""Promise 2 at is_claim and is_paper_against: things of all kinds, and things nearly right, of each kind of CLAIM."""

import unittest

from tests import calls_more, claims, reckoning, samples, test_lots, test_rounds, test_unknown, trying
from tests.test_things_talk import is_set
from whomheeds import judge

RING = (0, 6, (0, 3), (1, 2))
SOME = [(0, RING), (1, (7,)), (2, (0, 6, (0, 1))), (4, (3, 3, (0, 1, 3), (1, 2)))]


def is_total(council, x):
    return type(x) is tuple and len(x) == len(council) and all(map(reckoning.is_number, x))


def are_members(council, xs):
    return all(reckoning.is_number(x) and 0 <= x < len(council) for x in xs)


def is_wish(council, x):
    return type(x) is tuple and all(
        type(part) is tuple and len(part) == 3 and all(map(reckoning.is_number, part)) and are_members(council, part[:2])
        and part[1] in reckoning.firm_ones(council) for part in x)


def is_voice(council, x):
    return type(x) is tuple and len(x) == len(council) and all(map(reckoning.is_fraction, x)) and all(
        x[k] == (council[k], 1) for k in reckoning.firm_ones(council))


def are_rows(x, many):
    """Whether it is an ascending tuple of tuples of so many numbers."""
    return type(x) is tuple and all(type(part) is tuple and len(part) == many and all(map(reckoning.is_number, part))
                                    for part in x) and list(x) == sorted(set(x))


def is_heeds(council, x):
    return are_rows(x, 3) and set(x) <= set(test_lots.triples_of(council))


def is_told_order(council, x):
    return are_rows(x, 2) and set(x) <= set(reckoning.pairs_of(reckoning.firm_ones(council)))


def is_begun(council, x):
    return is_total(council, x) and all(x[k] == council[k] for k in reckoning.firm_ones(council))


def is_claim(council, x):
    """As the table tells it."""
    if type(x) is not tuple or not x or type(x[0]) is not str:
        return False
    kind, told = x[0], x[1:]
    number = reckoning.is_number(told[-1]) if told else False
    if kind in ("least", "above"):
        return len(told) == 2 and is_total(council, told[0]) and number
    if kind == "wish":
        return len(told) == 2 and is_wish(council, told[0]) and number
    if kind == "like":
        return len(told) == 2 and are_members(council, told)
    if kind == "voice":
        return len(told) == 1 and is_voice(council, told[0])
    if kind == "bounds":
        return len(told) == 3 and reckoning.is_bounds(council, told[0]) and is_total(council, told[1]) and number
    if kind == "heeds":
        return len(told) == 3 and is_heeds(council, told[0]) and is_total(council, told[1]) and number
    if kind == "order":
        return len(told) == 2 and is_told_order(council, told[0]) and is_total(council, told[1])
    if kind == "pull":
        return len(told) == 3 and are_members(council, told) and told[1] in reckoning.asks(council, told[0])
    if kind == "bought":
        return len(told) == 3 and is_set(told[0]) and are_members(council, told[0]) and reckoning.is_number(told[1]) and (
            is_set(told[2]) and set(told[2]) <= set(reckoning.askers(council)))
    if kind == "talk":
        return len(told) == 4 and is_begun(council, told[0]) and reckoning.is_number(told[1]) and told[1] >= 0 and (
            is_total(council, told[2]) and number)
    return False


def of_each_kind(council, seed):
    """A CLAIM of each kind that there is."""
    found = {}
    for claim in claims.claims_for(council, seed):
        if claim[0] not in found or len(repr(claim)) > len(repr(found[claim[0]])):
            found[claim[0]] = claim
    return list(found.values())


class Claims(trying.Case):

    def test_is_claim(self):
        for seed, council in SOME:
            rows = of_each_kind(council, seed)
            self.assertGreaterEqual(len(rows), 11 if reckoning.askers(council) else 9)
            # Bounds of the points do not count.
            rows += [("least", (10 ** 60,) * len(council), -10 ** 90), ("like", 0, 0), ("order", (), (0,) * len(council))]
            self.check(judge.is_claim, (council,), rows, lambda thing, text: is_claim(council, thing))

    def test_words_of_other_kinds(self):
        """What stands behind a word must be of its own kind."""
        words = ("least", "above", "wish", "like", "voice", "bounds", "heeds", "order", "pull", "bought", "talk",
                 "", "Least", "least ", "up", "none", "sum", 0, None, True, ("least",), ["least"])
        seen = 0
        for seed, council in SOME:
            for claim in of_each_kind(council, seed):
                for word in words:
                    thing = (word,) + claim[1:]
                    right = is_claim(council, thing)
                    seen += right
                    self.assertIs(judge.is_claim(council, thing), right, thing)
        self.assertGreater(seen, 43)

    def test_edges(self):
        for claim in (("like", 2, 4), ("like", -1, 2), ("like", 4, 4), ("order", ((0, 0),), (0, 0, 0, 0)),
                      ("order", ((0, 2),), (0, 0, 0, 0)), ("order", ((1, 0), (0, 1)), (0, 0, 0, 0)),
                      ("bounds", ((), (), (1, 1), (1, 1)), (0, 0, 0, 0), 0), ("bounds", ((), (), ((2, 1), (1, 1)), ((1, 1), (1, 1))), (0, 0, 0, 0), 0),
                      ("heeds", ((2, 0, 0),), (0, 0, 0, 0), 0), ("heeds", ((2, 0, 1),), (0, 0, 0, 0), 0),
                      ("pull", 2, 1, 3), ("pull", 0, 1, 2), ("pull", 2, 0, 4), ("pull", 2, 0, -1), ("bought", (2, 4), 0, ()),
                      ("bought", (2,), 0, (1,)), ("bought", (3, 2), 0, ()), ("bought", (2,), 0, (2, 2)), ("bought", (2,), None, ()),
                      ("talk", (0, 7, 1, 1), 1, (0, 0, 0, 0), 0), ("talk", (0, 6, 1, 1), -1, (0, 0, 0, 0), 0),
                      ("voice", ((0, 1), (6, 1), (4, 2), (3, 1))), ("voice", ((0, 1), (5, 1), (4, 1), (3, 1))),
                      ("voice", ((0, 1), (6, 1), (4, 1))), ("wish", ((2, 3, 1),), 0), ("wish", ((4, 0, 1),), 0), ("wish", ((2, 0),), 0),
                      ("least", (0, 0, 0), 0), ("least", (0, 0, 0, 0, 0), 0), ("least", (0, 0, 0, True), 0), ("above", (0, 0, 0, 0), (1, 2)),
                      ("least", (0, 0, 0, 0)), ("least", (0, 0, 0, 0), 0, 0), ("least",), ()):
            self.assertIs(judge.is_claim(RING, claim), False, claim)
        for claim in (("pull", 2, 0, 2), ("pull", 2, 0, 0), ("bought", (), 0, ()), ("bought", (0, 1, 2, 3), -10 ** 50, (2, 3)),
                      ("talk", (0, 6, -9, 9), 0, (0, 0, 0, 0), 0), ("voice", ((0, 1), (6, 1), (99, 1), (1, 3))), ("wish", (), 3),
                      ("heeds", (), (0, 0, 0, 0), 0), ("order", ((0, 1), (1, 0)), (0, 0, 0, 0))):
            self.assertIs(judge.is_claim(RING, claim), True, claim)

    def test_papers(self):
        for seed, council in SOME:
            for claim in of_each_kind(council, seed) + list(calls_more.CLAIMS if council == calls_more.C else ()):
                made = judge.paper_against(council, claim)
                right = [made] if made is not None else []
                if claim[0] == "order" and made is not None:
                    right = [made, (made[0], tuple((firm, number * 3) for firm, number in made[1]))]
                self.check(judge.is_paper_against, (council, claim), right,
                           lambda thing, text: claims.is_paper(council, claim, thing))

    def test_papers_of_other_kinds(self):
        """A PAPER against one CLAIM, handed in against each other one."""
        seen = 0
        for seed, council in SOME + [(5, calls_more.C)]:
            rows = claims.claims_for(council, seed)[::2]
            papers = {repr(paper): paper for paper in [judge.paper_against(council, claim) for claim in rows]}
            for claim in rows[::2]:
                for paper in papers.values():
                    right = claims.is_paper(council, claim, paper)
                    seen += right
                    self.assertIs(judge.is_paper_against(council, claim, paper), right)
        self.assertGreater(seen, 100)


class Kinds(unittest.TestCase):

    def test_samples(self):
        """The tellings here and the samples tell one another."""
        for seed, council in SOME:
            self.assertTrue(is_begun(council, test_rounds.begun_for(council, seed)))
            self.assertTrue(all(is_told_order(council, order) for order in test_unknown.orders_for(council, seed)))
            self.assertTrue(all(is_heeds(council, heeds) for heeds in test_lots.heeds_for(council, seed)))
            self.assertTrue(is_wish(council, samples.wish_for(council, seed)))


if __name__ == "__main__":
    unittest.main()
