"""The functions of pulls and the files behind it, with the arguments of calls of each, for tests/calls.py."""

from whomheeds import buyers, desk, houses, judge, pulls, rounds, texts

SIGNATURES = {
    pulls: """pull(council,asker,member) pulls(council,asker) fixing(council,asker,number)
        pull_paper(council,asker,member,word) is_pull_paper(council,asker,member,word,thing)
        whose_matter(council,member) weights_apart(council,asker,member) is_weights_apart(council,asker,member,thing)
        ends_table(council) can_end(council,ends) following_to(council,ends) tells_no_more(one,other)
        parting_wish(one,other) is_parting_wish(one,other,thing) needless_arcs(council) lean_council(council)""",
    houses: """is_house(thing) letter(house) put_together(house,outside) places_there(house,outside)
        wish_there(house,outside,wish) lets_no_more_outside(one,other) alike_outside(one,other)
        parting_outside(one,other) is_parting_outside(one,other,thing) is_safe(house) losing_outside(house)
        is_losing(house,thing) seen_alike(house,one,other) seen_above(house,one,other) needless_inside(house)
        joined_houses(one,other,links) joined_letters(one,other,links)""",
    buyers: """are_sure(council,some,number,bought) low_road(council,some,number,bought)
        is_low_road(council,some,number,bought,thing) fewest_bought(council,some,number)
        least_bought(council,some,number) roads_apart(council,some,number) is_roads_apart(council,some,number,thing)
        cheapest_bought(council,some,number,prices) needed_bought(council,some,number)
        all_least_bought(council,some,number) most_ends(council) following_to_most(council) bar(council)
        is_bar(council,thing) fewest_ends(council) least_ends(council)""",
    rounds: """is_begun(council,thing) after_talk(council,begun,talk) round_weights(council,voice,other)
        is_round_weights(council,voice,other,thing) unfolded(council,begun,rounds)
        least_after(council,begun,rounds,asker) greatest_after(council,begun,rounds,asker)
        total_after(council,begun,rounds,total) talk_against(council,begun,rounds,total,number)
        is_talk_against(council,begun,rounds,total,number,thing) hangs_on(council,asker,rounds)
        rounds_till_free(council,asker) farthest(council,begun,weights,rounds)""",
    judge: """is_claim(council,thing) stands(council,claim) paper_against(council,claim)
        is_paper_against(council,claim,thing) first_fallen(council,claims) broken_by(council,other,claims)
        best_claim(council,claim) fewest_arcs_out(council,claim)""",
    texts: """fraction_text(fraction) read_fraction(text) council_text(one) read_council(text) weights_text(weights)
        read_weights(council,text) wish_text(wish) read_wish(council,text) voice_text(voice) read_voice(council,text)
        sum_text(total) read_sum(council,text) following_text(following) read_following(council,text)""",
    desk: """is_request(thing) replies(council,text)""",
}

# The functions that return a list.
LISTING = (houses.needless_inside, buyers.all_least_bought, desk.replies)

C = (0, 12, (0, 3), (1, 2), 7)
LESS, MORE = (0, 12, (0,), (1, 2), 7), (0, 12, (0, 1, 3), (1, 2, 4), 7)
SAD = (5, (2,), (1,))
W, OTHER = ((), (), (1, 2), (1, 1), ()), ((), (), (4, 1), (1, 9), ())
GAP, FIRST_ASKER = (0, 0, -1, 1, 0), (0, 0, 1, 0, 0)
BEGUN = (0, 12, 5, -3, 7)
V = ((0, 1), (12, 1), (6, 1), (9, 1), (7, 1))
LATER = ((0, 1), (12, 1), (6, 1), (21, 2), (7, 1))
BOUNDS = ((), (), ((1, 2), (1, 1)), ((1, 1), (2, 3)), ())

HOUSE, BARE = (((1, 2), 0, 7), (1,), (0,)), (((1,), 0, 7), (1,), (0,))
OUTSIDE, WIDE = (((1, 2), 0, 3), (1,), (0,)), ((0, 0, 9), (0,), (1, 2))
BACK, FIRM = (((1,), 0), (1,), (0,)), ((0, 0), (0,), (1,))
WISH = ((("seen", 0), ("own", 0), 1), (("out", 0), ("out", 2), -1))
TWO = (((3, 4), (0, 4), (0,), 0, 1), (3,), (0, 1, 2))
LOOP = (((1, 2), (0, 2), 0, 4), (2,), (0,))
LETTER, SHORT = (1, 1, ((("door", 0),), (("own", 0),))), (1, 1, ((("door", 0),),))
PARTING = (FIRM, ((("seen", 0), ("own", 0), -1),))

ABOVE = ("above", GAP, 0)
CLAIMS = (("least", GAP, 0), ("least", GAP, 1), ABOVE, ("wish", ((3, 1, 1), (2, 1, -1)), 0), ("wish", ((2, 0, 1),), 1),
          ("like", 2, 2), ("like", 2, 3), ("voice", V), ("voice", LATER), ("bounds", BOUNDS, GAP, 1),
          ("bounds", BOUNDS, GAP, 9), ("heeds", ((2, 0, 3),), GAP, 1), ("heeds", ((2, 0, 3),), GAP, 9),
          ("order", ((0, 1),), GAP), ("order", (), GAP), ("pull", 2, 3, 3), ("pull", 2, 0, 3),
          ("bought", (2, 3), 5, (2,)), ("bought", (2, 3), 5, ()), ("talk", BEGUN, 1, FIRST_ASKER, -3),
          ("talk", BEGUN, 2, FIRST_ASKER, 5))

# Arguments behind the COUNCIL C.
CALLS = {
    pulls.pull: [(2, 3), (2, 4), (3, 2), (2, 2), (0, 2), (2, 5)], pulls.pulls: [(2,), (3,), (1,), (5,)],
    pulls.fixing: [(2, 0), (2, 5), (3, 12), (1, 5), (-1, 0)],
    pulls.pull_paper: [(2, 3, "up"), (2, 3, "down"), (2, 3, "none"), (2, 4, "up"), (2, 4, "left"), (2, 2, "up")],
    pulls.is_pull_paper: [(2, 3, "down", W), (2, 3, "up", W), (2, 3, "none", W[1:]), (2, 4, "left", W), (1, 4, "up", W)],
    pulls.whose_matter: [(3,), (0,), (5,)], pulls.weights_apart: [(2, 3), (2, 2), (2, 0), (0, 2), (2, 5)],
    pulls.is_weights_apart: [(2, 3, (W, W[:2] + ((1, 3),) + W[3:])), (2, 3, (W, OTHER)), (0, 2, None)],
    pulls.ends_table: [()], pulls.can_end: [((0, 1, 0, 0, 4),), ((0, 1, 1, 0, 4),)],
    pulls.following_to: [((0, 1, 0, 0, 4),), ((0, 1, 1, 0, 4),)],
    pulls.tells_no_more: [(MORE,), (LESS,), (C[:4],)], pulls.parting_wish: [(MORE,), (LESS,), (C[:4],)],
    pulls.is_parting_wish: [(LESS, ((2, 1, -1),)), (MORE, ((2, 1, -1),)), (C[:4], None)],
    pulls.needless_arcs: [()], pulls.lean_council: [()],
    buyers.are_sure: [((2, 3), 5, (2,)), ((2, 3), 5, ()), ((2,), 5, (1,)), ((2, 7), 5, (8,))],
    buyers.low_road: [((2, 3), 5, (2,)), ((2, 3), 5, ()), ((3,), 5, (4,)), ((2, 7), 5, ())],
    buyers.is_low_road: [((2, 3), 5, (), (2, 0)), ((2, 3), 5, (2,), (2, 0)), ((2,), 5, (1,), None), ((7,), 5, (), None)],
    buyers.fewest_bought: [((2, 3), 5), ((0,), 5), ((), 5), ((5,), 5)],
    buyers.least_bought: [((2, 3), 5), ((0,), 5), ((), 5), ((5,), 5)],
    buyers.roads_apart: [((2, 3), 5), ((2, 3), 8), ((0,), 5), ((5,), 5)],
    buyers.is_roads_apart: [((2, 3), 5, ((2, 0),)), ((2, 3), 5, ((3, 2, 0), (2, 0))), ((0,), 5, ()), ((5,), 5, ())],
    buyers.cheapest_bought: [((2, 3), 5, (None, 0, 3, 4, 1)), ((2, 3), 5, (None, 0, None, 4, 1)), ((2,), 5, ()), ((9,), 5, ())],
    buyers.needed_bought: [((2, 3), 5), ((0,), 5), ((5,), 5)],
    buyers.all_least_bought: [((2, 3), 8), ((0,), 5), ((), 5), ((5,), 5)],
    buyers.most_ends: [()], buyers.following_to_most: [()], buyers.bar: [()], buyers.is_bar: [(((0, 1), ()),), (((0,), (3,)),)],
    buyers.fewest_ends: [()], buyers.least_ends: [()],
    rounds.is_begun: [(BEGUN,), (BEGUN[::-1],)], rounds.after_talk: [(BEGUN, (W, OTHER)), (BEGUN, ())],
    rounds.round_weights: [(V, LATER), (V, V), (LATER, LATER)],
    rounds.is_round_weights: [(V, V, W), (V, V, OTHER), (V, LATER, ((), (), (1, 2), (1, 3), ()))],
    rounds.unfolded: [(BEGUN, 0), (BEGUN, 2)], rounds.least_after: [(BEGUN, 1, 2), (BEGUN, 10 ** 30, 3), (BEGUN, 1, 0), (BEGUN, 1, 5)],
    rounds.greatest_after: [(BEGUN, 1, 2), (BEGUN, 0, 3), (BEGUN, 1, 0), (BEGUN, 1, 5)],
    rounds.total_after: [(BEGUN, 2, GAP), (BEGUN, 0, GAP)],
    rounds.talk_against: [(BEGUN, 2, GAP, 1), (BEGUN, 1, GAP, -100), (BEGUN, 0, GAP, 0)],
    rounds.is_talk_against: [(BEGUN, 2, GAP, 9, (W, OTHER)), (BEGUN, 1, GAP, -9, (W,)), (BEGUN, 1, GAP, 0, (W, W))],
    rounds.hangs_on: [(2, 3), (2, 10 ** 30), (0, 1), (5, 1)], rounds.rounds_till_free: [(2,), (0,), (5,)],
    rounds.farthest: [(BEGUN, W, 0), (BEGUN, W, 3)],
    judge.is_claim: [(claim,) for claim in CLAIMS] + [(("like", 2, 5),), (("up", 2, 3),)],
    judge.stands: [(claim,) for claim in CLAIMS] + [(("like", 2, 5),), (("up", 2, 3),)],
    judge.paper_against: [(claim,) for claim in CLAIMS] + [(("like", 2, 5),)],
    judge.is_paper_against: [(claim, W) for claim in CLAIMS] + [
        (("bought", (2, 3), 5, ()), (2, 0)), (("order", (), GAP), ((0, 1, 0, 1, 4), ((0, 1), (1, 0), (4, 0)))),
        (("pull", 2, 0, 3), (W, W[:2] + ((3, 2),) + W[3:])), (("talk", BEGUN, 1, FIRST_ASKER, 5), (W,)), (("like", 2, 5), W)],
    judge.first_fallen: [(CLAIMS,), (CLAIMS[:1] + CLAIMS[2:3],), ((),), (CLAIMS + (("like", 2, 5),),)],
    judge.broken_by: [(LESS, CLAIMS), (MORE, CLAIMS + (("like", 2, 5), 3)), (C, ())],
    judge.best_claim: [(claim,) for claim in CLAIMS],
    judge.fewest_arcs_out: [(claim,) for claim in CLAIMS] + [(("like", 0, 2),)],
    texts.council_text: [()], texts.read_weights: [("-\n-\n1 2\n1 1\n-\n",), ("-\n-\n1 2\n1\n-\n",), ("-\n-\n1 2",)],
    texts.read_wish: [("2 0 -4\n",), ("2 3 1",), ("",)], texts.read_voice: [("0 12 1/2 -3 7",), ("0 12 1/2 -3",)],
    texts.read_sum: [("0 0 -1 1 0",), ("0 0 -1 1",)], texts.read_following: [("0 1 0 2 4",), ("0 1 3 2 4",)],
    desk.replies: [("",), ("ask 2 1\nask 2 2\nmembers\nhope gap 0 0 -1 1 0\nheld\nidle\nvoice",), ("held\n",)],
}

# All arguments.
WHOLE = [
    (houses.is_house, (HOUSE,)), (houses.is_house, ((C, (2,), ()),)), (houses.letter, (TWO,)), (houses.letter, (BARE,)),
    (houses.put_together, (HOUSE, OUTSIDE)), (houses.put_together, (HOUSE, TWO)), (houses.places_there, (HOUSE, OUTSIDE)),
    (houses.places_there, (WIDE, TWO)), (houses.wish_there, (HOUSE, OUTSIDE, WISH)), (houses.wish_there, (HOUSE, TWO, ())),
    (houses.lets_no_more_outside, (BARE, HOUSE)), (houses.lets_no_more_outside, (HOUSE, BARE)),
    (houses.lets_no_more_outside, (HOUSE, TWO)), (houses.alike_outside, (HOUSE, BARE)), (houses.alike_outside, (HOUSE, TWO)),
    (houses.parting_outside, (BARE, HOUSE)), (houses.parting_outside, (HOUSE, BARE)), (houses.parting_outside, (TWO, BARE)),
    (houses.is_parting_outside, (HOUSE, BARE, PARTING)), (houses.is_parting_outside, (BARE, HOUSE, PARTING)),
    (houses.is_parting_outside, (TWO, HOUSE, None)), (houses.is_safe, (HOUSE,)), (houses.is_safe, (BARE,)),
    (houses.losing_outside, (HOUSE,)), (houses.losing_outside, (BARE,)), (houses.is_losing, (BARE, BACK)),
    (houses.is_losing, (HOUSE, BACK)), (houses.seen_alike, (TWO, 0, 2)), (houses.seen_alike, (TWO, 0, 3)),
    (houses.seen_alike, (TWO, 3, 5)), (houses.seen_above, (TWO, 1, 0)), (houses.seen_above, (TWO, 0, 1)),
    (houses.seen_above, (TWO, -1, 9)), (houses.seen_above, (TWO, 3, 0)), (houses.needless_inside, (LOOP,)),
    (houses.needless_inside, (HOUSE,)), (houses.joined_houses, (HOUSE, BARE, ((0, 0, 0),))),
    (houses.joined_houses, (BARE, BARE, ((0, 0, 0), (1, 0, 0)))), (houses.joined_letters, (SHORT, LETTER, ((0, 0, 0),))),
    (houses.joined_letters, (SHORT, SHORT, ((0, 0, 0), (1, 0, 0)))),
    (texts.fraction_text, ((-7, 2),)), (texts.fraction_text, ((4, 1),)), (texts.read_fraction, ("-7/2",)),
    (texts.read_fraction, ("4/2",)), (texts.read_council, ("council\nholds 5\nasks 0",)), (texts.read_council, ("council\nasks",)),
    (texts.council_text, (SAD,)), (texts.weights_text, (W,)), (texts.wish_text, (((2, 0, -4), (3, 1, 5)),)), (texts.wish_text, ((),)),
    (texts.voice_text, (LATER,)), (texts.sum_text, (GAP,)), (texts.following_text, ((0, 1, 0, 2, 4),)),
    (desk.is_request, ("held",)), (desk.is_request, ("hold",)), (desk.replies, (SAD, "")),
    (pulls.pull, (SAD, 1, 2)), (pulls.parting_wish, (SAD, C)), (pulls.tells_no_more, ((5, 6, 7), SAD)),
    (buyers.most_ends, (SAD,)), (rounds.farthest, (SAD, (5, 1, 2), ((), (1,), (1,)), 1)),
    (rounds.after_talk, (SAD, (5, 1, 2), (((), (1,), (1,)),))), (judge.stands, (SAD, ("like", 1, 2))),
    (judge.broken_by, (C, SAD, ())), (texts.read_following, (SAD, "0 2 1")),
]
