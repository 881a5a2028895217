"""The whole document once more: what stands in more than one point agrees."""

import unittest
from itertools import product

from tests import claims, reckoning, samples, test_houses, test_rounds
from tests.samples import MADE, SOUND
from whomheeds import between, buyers, councils, desk, follows, gates, houses, judge, lots, orders, pulls, ranges, rounds
from whomheeds import sums, texts, unknown, voices
from whomheeds.board import Board

SOME = list(enumerate(SOUND[::23] + MADE[::6] + [(7,), (7, 7), (5, (0, 2), (1,)), (3, 3, (0, 1, 3), (1, 2)), (0, 6, (0, 3), (1, 2)),
                                                 (0, 6, (0, 3), (1, 2), (3,), (0, 1))]))
WORDS = {"above": "up", "below": "down", "alike": "none", "either": "either"}


def lone(council, member):
    return tuple(int(k == member) for k in range(len(council)))


class Members(unittest.TestCase):
    """What is said of one MEMBER, and of two."""

    def test_one(self):
        for seed, council in SOME:
            for member in range(len(council)):
                low, high = ranges.least_held(council, member), ranges.greatest_held(council, member)
                total = lone(council, member)
                self.assertEqual((sums.least_value(council, total), sums.greatest_value(council, total)), (low, high))
                self.assertEqual(unknown.stretch_by_firm(council, (), member), (low, high))
                self.assertEqual(pulls.whose_matter(council, member) == (), low == high)
                self.assertEqual(judge.best_claim(council, ("least", total, 0)), ("least", total, low))
                for number in (low - 1, low, low + 1, high, high + 1):
                    self.assertIs(buyers.are_sure(council, (member,), number, ()), ranges.always_from(council, member, number))
                    self.assertIs(judge.stands(council, ("above", total, number)), ranges.always_above(council, member, number))
                    self.assertIs(between.comes(council, total, (number, 1)), ranges.can_hold(council, member, (number, 1)))
                if len(lots.lots_of(council, (), member) if reckoning.asks(council, member) else ()) < 8:
                    self.assertEqual(lots.heeded_range(council, (), member)[:2], ((low, 1), (high, 1)))

    def test_two(self):
        for _, council in SOME:
            table = pulls.ends_table(council)
            for asker, member in product(range(len(council)), repeat=2):
                alike = gates.alike(council, asker, member)
                self.assertIs(sums.beside(council, asker, member) == "alike", alike)
                self.assertIs(judge.stands(council, ("like", asker, member)), alike)
                self.assertIs(gates.alike_always(council, asker, member), all(ends[asker] == ends[member] for ends in table))
                self.assertIs(unknown.needed_pairs(council, asker, member) == (), all(ends[asker] == ends[member] for ends in table))
                if asker != member and reckoning.asks(council, asker):
                    word = pulls.pull(council, asker, member)
                    self.assertEqual(word, WORDS[sums.beside(council, member, asker)])
                    self.assertEqual(word == "none", alike)
                    if member in council[asker]:
                        self.assertIs(judge.stands(council, ("pull", asker, member, asker)), word in ("up", "none"))

    def test_three_words(self):
        for _, council in SOME:
            firm = {council[k] for k in reckoning.firm_ones(council)}
            if len(reckoning.askers(council)) <= 4 and len(firm) <= 3:
                for one, other in list(product(range(len(council)), repeat=2))[::2]:
                    stood = orders.how_they_stand(council, one, other)
                    word = sums.beside(council, one, other)
                    self.assertEqual(stood, ("above", "alike", "below") if word == "either" else (word,))
                    places = [{member: at for at, some in enumerate(order) for member in some} for order in orders.all_orders(council)]
                    seen = {(row[one] > row[other]) - (row[one] < row[other]) for row in places}
                    self.assertEqual(seen, {{"above": 1, "alike": 0, "below": -1}[word] for word in stood})


class Arcs(unittest.TestCase):

    def test_dead_sure_and_needless(self):
        for _, council in SOME:
            needless, dead, sure = pulls.needless_arcs(council), follows.dead_arcs(council), follows.sure_arcs(council)
            self.assertEqual(set(needless) & set(sure), set())
            self.assertEqual(set(needless) & set(councils.needed_arcs(council)), set())
            self.assertTrue({arc for arc in dead if len(council[arc[0]]) > 1} <= set(needless))
            self.assertEqual(pulls.ends_table(pulls.lean_council(council)), pulls.ends_table(council))

    def test_wishes_that_part(self):
        """What tells more breaks a CLAIM that stands of what tells less."""
        for _, council in SOME:
            for asker, goal in reckoning.arcs(council):
                if len(council[asker]) == 1 or (asker, goal) in councils.needed_arcs(council):
                    continue
                narrow = councils.without_arc(council, asker, goal)
                wish = pulls.parting_wish(council, narrow)
                self.assertEqual(wish is None, (asker, goal) in pulls.needless_arcs(council))
                if wish is not None:
                    self.assertIs(judge.stands(narrow, ("wish", wish, 0)), True)
                    self.assertEqual(judge.broken_by(narrow, council, (("wish", wish, 0),)), (0,))
                    self.assertIn(judge.fewest_arcs_out(council, ("wish", wish, 0)) if len(reckoning.arcs(council)) <= 8 else ((asker, goal),),
                                  [((a, b),) for a, b in reckoning.arcs(council)])

    def test_houses_without_doors(self):
        """A HOUSE without DOORS, all of it SEEN, whose firm ones each hold a number of their own, is its ENDS TABLE."""
        for _, council in SOME:
            if len(council) > 7:
                continue
            firm = reckoning.firm_ones(council)
            house = (council, (), tuple(range(len(council))))
            ends = houses.letter(house)[2]
            table = {tuple(("own", firm.index(end)) for end in row) for row in pulls.ends_table(council)}
            self.assertEqual(set(ends), table)
            self.assertEqual(tuple(houses.needless_inside(house)), pulls.needless_arcs(council))
            for one, other in list(product(range(len(council)), repeat=2))[::3]:
                self.assertIs(houses.seen_alike(house, one, other), gates.alike(council, one, other))
                self.assertIs(houses.seen_above(house, one, other), sums.beside(council, one, other) in ("above", "alike"))

    def test_houses_with_firm_outsides(self):
        """With an OUTSIDE of firm ones a HOUSE is its COUNCIL, DOORS holding what these hold."""
        for house in test_houses.HOUSES[::7]:
            council, doors, seen = house
            outside = ((0,) * len(seen) + tuple(40 + k for k in range(len(doors))) + (9,), tuple(range(len(seen))),
                       tuple(range(len(seen), len(seen) + len(doors))))
            filled = tuple(40 + doors.index(k) if k in doors else part for k, part in enumerate(council))
            both, places = houses.put_together(house, outside), houses.places_there(house, outside)[0]
            for k in range(len(council)):
                self.assertEqual((ranges.least_held(both, places[k]), ranges.greatest_held(both, places[k])),
                                 (ranges.least_held(filled, k), ranges.greatest_held(filled, k)))


class Talks(unittest.TestCase):

    def test_rounds(self):
        for seed, council in SOME:
            begun = test_rounds.begun_for(council, seed)
            weights = samples.weights_for(council, seed)
            for asker in reckoning.askers(council):
                free = rounds.rounds_till_free(council, asker)
                ring = any(k in councils.in_rings(council) for k in councils.reached(council, asker))
                self.assertEqual(free is None, ring)
                if free is not None:
                    low, high = rounds.least_after(council, begun, free, asker), rounds.greatest_after(council, begun, free, asker)
                    self.assertEqual((low, high), (ranges.least_held(council, asker), ranges.greatest_held(council, asker)))
                    if free <= 8:
                        held = rounds.after_talk(council, begun, (weights,) * free)
                        self.assertEqual(held[asker], voices.voice_by(council, weights)[asker])

    def test_unfolded(self):
        """The VOICE of the unfolded COUNCIL is what comes behind the talk."""
        for seed, council in SOME:
            begun, many = test_rounds.begun_for(council, seed), len(council)
            talk = test_rounds.talk_for(council, seed, 3)
            layers = rounds.unfolded(council, begun, 3)
            rows = ((),) * many + tuple(row for weights in talk for row in weights)
            self.assertIs(voices.is_weights(layers, rows), True)
            self.assertEqual(voices.voice_by(layers, rows)[3 * many:], rounds.after_talk(council, begun, talk))


class Told(unittest.TestCase):
    """Texts, a board and a desk tell what the functions do."""

    def test_texts(self):
        for seed, council in SOME:
            total = samples.total_for(council, seed)
            made = between.weights_for(council, total, (sums.least_value(council, total) * 2 + 1, 2))
            for weights in (made, voices.equal_weights(council), pulls.pull_paper(council, reckoning.askers(council)[0], 0, "none")
                            if reckoning.askers(council) and reckoning.askers(council)[0] != 0 else None):
                if weights is not None:
                    self.assertEqual(texts.read_weights(council, texts.weights_text(weights)), weights)
                    voice = voices.voice_by(council, weights)
                    self.assertEqual(texts.read_voice(council, texts.voice_text(voice)), voice)
                    self.assertEqual(texts.read_fraction(texts.fraction_text(voice[-1])), voice[-1])
            wish = sums.wish_of(council, total)
            self.assertEqual(texts.read_wish(council, texts.wish_text(wish)), wish)
            row = buyers.following_to_most(council)
            self.assertEqual(texts.read_following(council, texts.following_text(row)), row)
            lean = pulls.lean_council(council)
            self.assertEqual(texts.read_council(texts.council_text(lean)), lean)

    def test_board(self):
        for seed, council in SOME:
            board = Board(council)
            for k, total in enumerate(claims.sums_for(council, seed)):
                word = "hope" + str(k)
                board.hope(word, total)
                claim = ("least", total, 0)
                self.assertIs(board.is_held(word), judge.stands(council, claim))
                self.assertEqual(board.breaker(word), sums.against(council, total, 0))
                self.assertEqual(board.span(word), (sums.least_value(council, total), sums.greatest_value(council, total)))
            self.assertTrue(set(pulls.needless_arcs(council)) <= set(board.idle_arcs()))
            told = tuple(("least", total, 0) for _, total in board.hopes())
            for asker, goal in product(reckoning.askers(council), range(len(council))):
                if goal != asker and goal not in council[asker]:
                    places = judge.broken_by(council, councils.with_arc(council, asker, goal), told)
                    self.assertEqual(board.spoilt_by(asker, goal), tuple(board.hopes()[place][0] for place in places))

    def test_desk(self):
        for seed, council in SOME:
            board = Board(council)
            lines = ["hope a " + texts.sum_text(samples.total_for(council, seed)), "held", "span a", "against a", "voice", "idle", "members"]
            board.hope("a", samples.total_for(council, seed))
            made = desk.replies(council, "\n".join(lines))
            self.assertEqual(made[1], "a" if board.is_held("a") else "-")
            self.assertEqual(made[2], texts.sum_text(board.span("a")))
            self.assertEqual(made[3], "no" if board.breaker("a") is None else "below")
            self.assertEqual(made[4], texts.voice_text(voices.voice_by(council, voices.equal_weights(council))))
            self.assertEqual(texts.read_voice(council, made[4]), voices.voice_by(council, voices.equal_weights(council)))
            self.assertEqual(made[5] == "-", board.idle_arcs() == ())
            self.assertEqual(texts.read_council("council\n" + made[6].replace(" / ", "\n")), council)


if __name__ == "__main__":
    unittest.main()
