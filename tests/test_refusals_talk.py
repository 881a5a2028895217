"""Promises 2 and 3 at pulls, houses, buyers, rounds and judge: which refusal comes first, and what it is raised with."""

from tests import calls_more, refusing
from tests.refusing import ANY, SAD, SADT, SADV, SADW
from whomheeds import buyers, desk, houses, judge, pulls, rounds, texts
from whomheeds.errors import Lost, NoAsker, NoMember, NoWord, Unfit

C, W, GAP, BEGUN, V = calls_more.C, calls_more.W, calls_more.GAP, calls_more.BEGUN, calls_more.V
SADP = (1,) * 7
SADB = (4, 1, 1, 1, 9, 1, 1)
TOTAL = ("least", SADT, 0)

# Function, arguments, error, what it tells: of two or more that are due the one that comes first.
FIRST_COME = (
    (pulls.pull, (SAD, 7, -1), NoMember, 7), (pulls.pull, (SAD, 0, -1), NoMember, -1), (pulls.pull, (SAD, 0, 7), NoMember, 7),
    (pulls.pull, (SAD, 0, 0), NoAsker, 0), (pulls.pull, (SAD, 4, 3), NoAsker, 4), (pulls.pull, (SAD, 3, 3), Lost, 1),
    (pulls.pull, (C, 2, 2), Unfit, None), (pulls.pull, (C, 4, 4), NoAsker, 4),
    (pulls.pulls, (SAD, 7), NoMember, 7), (pulls.pulls, (SAD, -1), NoMember, -1), (pulls.pulls, (SAD, 0), NoAsker, 0),
    (pulls.pulls, (SAD, 3), Lost, 1),
    (pulls.fixing, (SAD, -1, 7), NoMember, -1), (pulls.fixing, (SAD, 7, 0), NoMember, 7), (pulls.fixing, (SAD, 4, 99), NoAsker, 4),
    (pulls.fixing, (SAD, 3, 99), Lost, 1), (pulls.fixing, (SAD, 1, -1), Lost, 1),
    (pulls.pull_paper, (SAD, 7, -1, "more"), NoWord, "more"), (pulls.pull_paper, (SAD, 7, -1, ""), NoWord, ""),
    (pulls.pull_paper, (C, 2, 3, "either"), NoWord, "either"), (pulls.pull_paper, (C, 2, 3, "Up"), NoWord, "Up"),
    (pulls.pull_paper, (SAD, 7, -1, "up"), NoMember, 7), (pulls.pull_paper, (SAD, 3, -1, "down"), NoMember, -1),
    (pulls.pull_paper, (SAD, 0, 0, "none"), NoAsker, 0), (pulls.pull_paper, (SAD, 3, 3, "up"), Lost, 1),
    (pulls.pull_paper, (C, 2, 2, "none"), Unfit, None),
    (pulls.is_pull_paper, (SAD, 7, -1, "more", None), NoWord, "more"), (pulls.is_pull_paper, (SAD, 7, -1, "above", None), NoWord, "above"),
    (pulls.is_pull_paper, (C, 2, 2, "either", W), NoWord, "either"), (pulls.is_pull_paper, (SAD, 7, -1, "up", None), NoMember, 7),
    (pulls.is_pull_paper, (SAD, 0, -1, "up", None), NoMember, -1), (pulls.is_pull_paper, (SAD, 0, 0, "none", None), NoAsker, 0),
    (pulls.is_pull_paper, (SAD, 3, 3, "up", None), Lost, 1), (pulls.is_pull_paper, (SAD, 3, 0, "up", SADW), Lost, 1),
    (pulls.is_pull_paper, (C, 2, 2, "none", None), Unfit, None), (pulls.is_pull_paper, (C, 2, 2, "none", W), Unfit, None),
    (pulls.whose_matter, (SAD, 7), NoMember, 7), (pulls.whose_matter, (SAD, -1), NoMember, -1), (pulls.whose_matter, (SAD, 0), Lost, 1),
    (pulls.weights_apart, (SAD, 7, -1), NoMember, 7), (pulls.weights_apart, (SAD, 0, -1), NoMember, -1),
    (pulls.weights_apart, (SAD, 0, 0), NoAsker, 0), (pulls.weights_apart, (SAD, 3, 3), Lost, 1),
    (pulls.is_weights_apart, (SAD, 7, -1, None), NoMember, 7), (pulls.is_weights_apart, (SAD, 0, 7, None), NoMember, 7),
    (pulls.is_weights_apart, (SAD, 4, 3, None), NoAsker, 4), (pulls.is_weights_apart, (SAD, 3, 3, None), Lost, 1),
    (pulls.is_weights_apart, (SAD, 3, 3, (SADW, SADW)), Lost, 1),
    (pulls.ends_table, (SAD,), Lost, 1), (pulls.can_end, (SAD, (0, -1, 9, 99, 4, 0, 0)), Lost, 1), (pulls.can_end, (SAD, ()), Lost, 1),
    (pulls.following_to, (SAD, (0, -1, 9, 99, 4, 0, 0)), Lost, 1), (pulls.following_to, (C, (0, -1, 9, 99, 4)), Unfit, None),
    (pulls.following_to, (C, (1, 1, 1, 1, 4)), Unfit, None), (pulls.following_to, (C, (0, 1, 2, 1, 4)), Unfit, None),
    (pulls.tells_no_more, (SAD, ((1,), (0,))), Lost, 1), (pulls.tells_no_more, (C, SAD), Lost, 1),
    (pulls.tells_no_more, (((1,), (0,)), SAD), Lost, 0), (pulls.tells_no_more, (C, C[:4]), Unfit, None),
    (pulls.tells_no_more, ((5, 6, 7, 8, (0,)), C), Unfit, None),
    (pulls.parting_wish, (SAD, ((1,), (0,))), Lost, 1), (pulls.parting_wish, (C, SAD), Lost, 1),
    (pulls.parting_wish, (C[:4], C), Unfit, None), (pulls.is_parting_wish, (SAD, ((1,), (0,)), None), Lost, 1),
    (pulls.is_parting_wish, (C, SAD, None), Lost, 1), (pulls.is_parting_wish, (C, C[:4], None), Unfit, None),
    (pulls.is_parting_wish, (C, C[:4], ()), Unfit, None),
    (pulls.needless_arcs, (SAD,), Lost, 1), (pulls.lean_council, (SAD,), Lost, 1),

    (houses.seen_alike, (calls_more.TWO, 5, -1), NoMember, 5), (houses.seen_alike, (calls_more.TWO, 3, -1), NoMember, -1),
    (houses.seen_alike, (calls_more.TWO, 3, 0), Unfit, None), (houses.seen_alike, (calls_more.TWO, 0, 4), Unfit, None),
    (houses.seen_above, (calls_more.TWO, -1, 5), NoMember, -1), (houses.seen_above, (calls_more.TWO, 4, 5), NoMember, 5),
    (houses.seen_above, (calls_more.TWO, 4, 4), Unfit, None),
    (houses.wish_there, (calls_more.HOUSE, calls_more.TWO, ()), Unfit, None),
    (houses.wish_there, (calls_more.HOUSE, calls_more.OUTSIDE, ((("out", 3), ("out", -1), 1),)), NoMember, 3),
    (houses.wish_there, (calls_more.HOUSE, calls_more.OUTSIDE, ((("seen", 0), ("out", -1), 1),)), NoMember, -1),
    (houses.put_together, (calls_more.HOUSE, calls_more.TWO), Unfit, None),
    (houses.places_there, (calls_more.TWO, calls_more.HOUSE), Unfit, None),
    (houses.is_parting_outside, (calls_more.TWO, calls_more.BARE, None), Unfit, None),
    (houses.lets_no_more_outside, (calls_more.TWO, calls_more.BARE), Unfit, None),

    (buyers.are_sure, (SAD, (0, 7), 5, (-1,)), NoMember, 7), (buyers.are_sure, (SAD, (-1,), 5, (8,)), NoMember, -1),
    (buyers.are_sure, (SAD, (0, 1), 5, (-1, 0)), NoMember, -1), (buyers.are_sure, (SAD, (0, 1), 5, (0, 7)), NoMember, 7),
    (buyers.are_sure, (SAD, (0, 1), 5, (0, 3)), NoAsker, 0), (buyers.are_sure, (SAD, (0,), 5, (3,)), Lost, 1),
    (buyers.are_sure, (SAD, (), 5, ()), Lost, 1),
    (buyers.low_road, (SAD, (0, 7), 5, (-1,)), NoMember, 7), (buyers.low_road, (SAD, (0, 1), 5, (4, 7)), NoMember, 7),
    (buyers.low_road, (SAD, (0, 1), 5, (3, 4)), NoAsker, 4), (buyers.low_road, (SAD, (0,), 5, ()), Lost, 1),
    (buyers.is_low_road, (SAD, (0, 7), 5, (-1,), None), NoMember, 7), (buyers.is_low_road, (SAD, (0, 1), 5, (4, 7), None), NoMember, 7),
    (buyers.is_low_road, (SAD, (0, 1), 5, (3, 4), None), NoAsker, 4), (buyers.is_low_road, (SAD, (0,), 5, (), None), Lost, 1),
    (buyers.is_low_road, (SAD, (0,), 5, (), (0,)), Lost, 1),
    (buyers.fewest_bought, (SAD, (-1, 7), 5), NoMember, -1), (buyers.fewest_bought, (SAD, (0,), 5), Lost, 1),
    (buyers.least_bought, (SAD, (0, 7), 5), NoMember, 7), (buyers.least_bought, (SAD, (0,), 5), Lost, 1),
    (buyers.roads_apart, (SAD, (0, 7, 8), 5), NoMember, 7), (buyers.roads_apart, (SAD, (0,), 5), Lost, 1),
    (buyers.is_roads_apart, (SAD, (-1, 7), 5, None), NoMember, -1), (buyers.is_roads_apart, (SAD, (0,), 5, ()), Lost, 1),
    (buyers.cheapest_bought, (SAD, (7,), 5, ()), NoMember, 7), (buyers.cheapest_bought, (SAD, (0,), 5, ()), Lost, 1),
    (buyers.cheapest_bought, (SAD, (0,), 5, SADP), Lost, 1), (buyers.cheapest_bought, (C, (0,), 5, ()), Unfit, None),
    (buyers.cheapest_bought, (C, (2,), 5, (1,) * 6), Unfit, None), (buyers.cheapest_bought, (C, (5,), 5, ()), NoMember, 5),
    (buyers.needed_bought, (SAD, (-1,), 5), NoMember, -1), (buyers.needed_bought, (SAD, (0,), 5), Lost, 1),
    (buyers.all_least_bought, (SAD, (1, 7), 5), NoMember, 7), (buyers.all_least_bought, (SAD, (0,), 5), Lost, 1),
    (buyers.most_ends, (SAD,), Lost, 1), (buyers.following_to_most, (SAD,), Lost, 1), (buyers.bar, (SAD,), Lost, 1),
    (buyers.is_bar, (SAD, None), Lost, 1), (buyers.is_bar, (SAD, ((0, 4), ())), Lost, 1), (buyers.fewest_ends, (SAD,), Lost, 1),
    (buyers.least_ends, (SAD,), Lost, 1),

    (rounds.least_after, (SAD, SADB, 2, 7), NoMember, 7), (rounds.least_after, (SAD, SADB, 2, -1), NoMember, -1),
    (rounds.least_after, (SAD, SADB, 2, 0), NoAsker, 0), (rounds.greatest_after, (SAD, SADB, 2, 7), NoMember, 7),
    (rounds.greatest_after, (SAD, SADB, 2, -1), NoMember, -1), (rounds.greatest_after, (SAD, SADB, 10 ** 30, 4), NoAsker, 4),
    (rounds.hangs_on, (SAD, -1, 3), NoMember, -1), (rounds.hangs_on, (SAD, 7, 3), NoMember, 7), (rounds.hangs_on, (SAD, 0, 3), NoAsker, 0),
    (rounds.rounds_till_free, (SAD, -1), NoMember, -1), (rounds.rounds_till_free, (SAD, 7), NoMember, 7),
    (rounds.rounds_till_free, (SAD, 4), NoAsker, 4), (rounds.farthest, (SAD, SADB, SADW, 2), Lost, 1),
    (rounds.farthest, (SAD, SADB, SADW, 0), Lost, 1),

    (judge.is_claim, (SAD, None), Lost, 1), (judge.is_claim, (SAD, TOTAL), Lost, 1), (judge.stands, (SAD, ("up",)), Lost, 1),
    (judge.stands, (SAD, TOTAL), Lost, 1), (judge.paper_against, (SAD, ("like", 7, 8)), Lost, 1),
    (judge.is_paper_against, (SAD, ("like", 7, 8), None), Lost, 1), (judge.first_fallen, (SAD, (("up",),)), Lost, 1),
    (judge.first_fallen, (SAD, ()), Lost, 1), (judge.broken_by, (SAD, ((1,), (0,)), ()), Lost, 1),
    (judge.broken_by, (C, SAD, ()), Lost, 1), (judge.broken_by, (((1,), (0,)), SAD, ()), Lost, 0),
    (judge.best_claim, (SAD, ("like", 1, 2)), Lost, 1), (judge.fewest_arcs_out, (SAD, ("voice", SADV)), Lost, 1),
    (judge.first_fallen, (C, (("like", 2, 3), ("like", 2, 5))), Unfit, None),
    (judge.first_fallen, (C, (("like", 2, 3), None)), Unfit, None),
    (judge.best_claim, (C, ("like", 2, 2)), Unfit, None), (judge.best_claim, (C, ("voice", V)), Unfit, None),
    (judge.best_claim, (C, ("order", (), GAP)), Unfit, None), (judge.best_claim, (C, ("pull", 2, 3, 3)), Unfit, None),
    (judge.best_claim, (C, ("bought", (2,), 3, ())), Unfit, None),
    (judge.fewest_arcs_out, (C, ("above", GAP, 0)), Unfit, None), (judge.fewest_arcs_out, (C, ("voice", V)), Unfit, None),
    (judge.fewest_arcs_out, (C, ("bounds", calls_more.BOUNDS, GAP, 0)), Unfit, None),
    (judge.fewest_arcs_out, (C, ("heeds", (), GAP, 0)), Unfit, None), (judge.fewest_arcs_out, (C, ("order", (), GAP)), Unfit, None),
    (judge.fewest_arcs_out, (C, ("pull", 2, 3, 3)), Unfit, None), (judge.fewest_arcs_out, (C, ("bought", (2,), 3, ())), Unfit, None),
    (judge.fewest_arcs_out, (C, ("talk", BEGUN, 1, GAP, 0)), Unfit, None),
)

# What is no CLAIM of C.
NO_CLAIMS = ((), ("up",), ("least",), ("least", GAP), ("least", GAP, 0, 0), ("least", GAP[1:], 0), ("least", GAP, None), "like", None,
             0, ("like", 2, 5), ("like", -1, 2), ("voice", V[1:]), ("voice", ((0, 1),) + ((11, 1),) + V[2:]), ("bounds", W, GAP, 0),
             ("heeds", ((2, 1, 3),), GAP, 0), ("order", ((0, 0),), GAP), ("order", ((0, 2),), GAP), ("pull", 2, 1, 3), ("pull", 0, 2, 3),
             ("bought", (2, 9), 0, ()), ("bought", (2,), 0, (0,)), ("talk", BEGUN[1:], 1, GAP, 0), ("talk", BEGUN, -1, GAP, 0),
             ("talk", (1,) + BEGUN[1:], 1, GAP, 0), ("wish", ((2, 3, 1),), 0), ("wish", ((5, 0, 1),), 0), ("above", GAP))

# They ask for no sound COUNCIL.
NEVER_LOST = (rounds.is_begun, rounds.after_talk, rounds.round_weights, rounds.is_round_weights, rounds.unfolded,
              rounds.least_after, rounds.greatest_after, rounds.total_after, rounds.talk_against, rounds.is_talk_against,
              rounds.hangs_on, rounds.rounds_till_free)


class Refusals(refusing.Case):

    def test_first_come(self):
        for function, arguments, error, told in FIRST_COME:
            self.check(function, arguments, error, told)

    def test_lost_is_raised_by_every_function_that_needs_a_sound_council(self):
        raising = [function for function, _, error, told in FIRST_COME if error is Lost and told == 1]
        self.assertEqual([function for function in NEVER_LOST if function in raising], [])
        self.check_all_are_there(raising + list(NEVER_LOST), (pulls, buyers, rounds, judge))

    def test_no_claims(self):
        for claim in NO_CLAIMS:
            self.assertIs(judge.is_claim(C, claim), False)
            for function, more in ((judge.stands, ()), (judge.paper_against, ()), (judge.is_paper_against, (W,)),
                                   (judge.is_paper_against, (None,)), (judge.best_claim, ()), (judge.fewest_arcs_out, ())):
                self.check(function, (C, claim) + more, Unfit, None)
            self.check(judge.first_fallen, (C, (calls_more.CLAIMS[1], claim)), Unfit, None)
            self.assertEqual(judge.broken_by(calls_more.LESS, C, (claim, ("like", 0, 2))), (1,))

    def test_rounds_ask_for_no_sound_council(self):
        self.assertIs(rounds.is_begun(SAD, SADB), True)
        self.assertEqual(rounds.after_talk(SAD, SADB, (SADW,))[3], (5, 2))
        voice = tuple((number, 1) for number in SADB)
        later = rounds.after_talk(SAD, SADB, (SADW,))
        self.assertIs(rounds.is_round_weights(SAD, voice, later, rounds.round_weights(SAD, voice, later)), True)
        self.assertEqual(rounds.unfolded(SAD, SADB, 1)[7:], (4, (2,), (1,), (0, 1), 9, (6,), (5,)))
        self.assertEqual((rounds.least_after(SAD, SADB, 10 ** 30, 3), rounds.greatest_after(SAD, SADB, 10 ** 30, 3)), (1, 4))
        self.assertEqual(rounds.total_after(SAD, SADB, 2, (0, 0, 0, 1, 0, 0, 0)), (1, 4))
        talk = rounds.talk_against(SAD, SADB, 2, (0, 0, 0, 1, 0, 0, 0), 2)
        self.assertIs(rounds.is_talk_against(SAD, SADB, 2, (0, 0, 0, 1, 0, 0, 0), 2, talk), True)
        self.assertEqual((rounds.hangs_on(SAD, 3, 2), rounds.rounds_till_free(SAD, 3)), ((2,), None))

    def test_texts_ask_for_no_sound_council(self):
        self.assertEqual(texts.read_council(texts.council_text(SAD)), SAD)
        self.assertEqual(texts.read_weights(SAD, texts.weights_text(SADW)), SADW)
        self.assertEqual(texts.read_wish(SAD, "1 0 7\n"), ((1, 0, 7),))
        self.assertEqual(texts.read_voice(SAD, texts.voice_text(SADV)), SADV)
        self.assertEqual(texts.read_sum(SAD, texts.sum_text(SADT)), SADT)

    def test_lost_is_the_first_lost_one(self):
        for council, number in (((5, (2,), (1,)), 1), (((1, 3), (2,), (1,), 5), 1), (((1,), (0,), 5), 0)):
            for function, more in ((pulls.ends_table, ()), (buyers.bar, ()), (judge.stands, (None,)), (desk.replies, ("x",))):
                self.check(function, (council,) + more, Lost, number)

    def test_nothing_is_changed_where_something_is_raised(self):
        council, some, row, claims = [5, [0, 2], [1, 3], 9], [1, 7], [1, 2], [["like", 1, 2], ["like", 1, 4]]
        for function, more, error in ((buyers.are_sure, (some, 3, row), NoMember), (buyers.cheapest_bought, (row, 3, row), Unfit),
                                      (pulls.following_to, (row + row,), Unfit), (judge.first_fallen, (claims,), Unfit)):
            with self.assertRaises(error):
                function(council, *more)
        house = [[[1], 0, 7], [1], [0]]
        with self.assertRaises(Unfit):
            houses.joined_houses(house, house, [[0, 0, 0], [1, 0, 0]])
        self.assertEqual((council, some, row, claims), ([5, [0, 2], [1, 3], 9], [1, 7], [1, 2], [["like", 1, 2], ["like", 1, 4]]))
        self.assertEqual(house, [[[1], 0, 7], [1], [0]])

    def test_ends_are_no_numbers_of_members(self):
        """can_end and following_to raise no NoMember."""
        for ends in ((0, 1, -1, 1, 4), (0, 1, 5, 1, 4), (0, 1, 10 ** 30, 1, 4), (-5, 1, 0, 1, 4), ANY[:5]):
            self.assertIs(pulls.can_end(C, ends), False)
            self.check(pulls.following_to, (C, ends), Unfit, None)
