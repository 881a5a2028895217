"""Promise 2 at each is_.. function: things of all kinds, and things that are nearly right."""

import unittest
from itertools import product

from tests import reckoning, samples, trying
from whomheeds import councils, follows, voices


class Things(trying.Case):

    def test_is_council(self):
        right = samples.SMALL[::9] + [(10 ** 60,), samples.BIG, samples.WIDE, (5, (0, 2), (1, 3), 9)]
        self.check(councils.is_council, (), right, lambda thing, text: reckoning.is_council(thing))

    def test_is_council_of_however_many(self):
        many = 5000
        chain = (10 ** 99,) + tuple((k - 1,) for k in range(1, many))
        crowd = ((*range(1, many),),) + (3,) * (many - 1)
        for council in (chain, crowd):
            self.assertIs(councils.is_council(council), True)
            self.assertIs(councils.is_council(council + ((many,),)), False)
            self.assertIs(councils.is_council(council + ((many + 1,),)), False)
            self.assertIs(councils.is_council(council + ((0, many - 1),)), True)
            self.assertIs(councils.is_council(council + ((True,),)), False)
            self.assertIs(councils.is_council(list(council)), False)

    def test_is_council_edges(self):
        for thing in ((), (5, ()), (5, (1,)), (5, (0, 0)), ((1, 2), 5, 5, (1, 0)), (5, (0, 2)), (5, (-1,)), (5, (-2, 0)),
                      (5, [0]), [5, (0,)], (5, (0, True)), (True,), (5, (False,)), (5, ("0",)), (None,), ((0,),), "5"):
            self.assertIs(councils.is_council(thing), False, thing)
        for thing in ((5,), (-5, (0,)), ((1,), (0,)), (0, 0, (0, 1)), ((1, 2), (0, 2), (0, 1))):
            self.assertIs(councils.is_council(thing), True, thing)

    def test_is_road(self):
        for council in samples.SMALL[::23] + [(5, (0, 2), (1, 3), 9)]:
            self.check_one_of(councils.is_road, (council,), reckoning.all_roads(council))

    def test_is_weights(self):
        for council in samples.SOUND[::19]:
            right = [samples.weights_for(council, seed) for seed in range(3)] + [
                samples.rows_for(council, 1, 10 ** 70, 5)]
            self.check(voices.is_weights, (council,), right, lambda thing, text: reckoning.is_weights(council, thing))

    def test_is_voice(self):
        for seed, council in enumerate(samples.SOUND[::11]):
            weights = samples.weights_for(council, seed)
            self.check_one_of(voices.is_voice, (council, weights), [reckoning.told_voice(council, weights)])

    def test_is_voice_wants_fractions(self):
        council, weights = (0, 1, (0, 1)), ((), (), (1, 1))
        self.assertIs(voices.is_voice(council, weights, ((0, 1), (1, 1), (1, 2))), True)
        for thing in (((0, 1), (1, 1), (2, 4)), ((0, 1), (1, 1), (-1, -2)), ((0, 1), (True, True), (1, 2)),
                      ((0, 2), (1, 1), (1, 2)), (0, 1, (1, 2)), ((False, 1), (1, 1), (1, 2)), ((0, 1), (1, 1)),
                      ((0, 1), (1, 1), (1, 2), (1, 2)), ([0, 1], (1, 1), (1, 2)), ((0, 1, 1), (1, 1), (1, 2))):
            self.assertIs(voices.is_voice(council, weights, thing), False, thing)

    def test_is_following(self):
        for council in samples.SOUND[::7]:
            self.check_one_of(follows.is_following, (council,), reckoning.followings(council))

    def test_is_changes(self):
        for council in samples.SOUND[::13]:
            rows = reckoning.followings(council)
            for one, other in list(product(rows, rows))[::11]:
                rights = reckoning.shortest_changes(council, one, other)
                self.check_one_of(follows.is_changes, (council, one, other), rights)

    def test_is_changes_wants_the_shortest(self):
        council, one, other = (9, 9, (0, 1), (0, 1)), (0, 1, 0, 0), (0, 1, 1, 1)
        middle, beside = (0, 1, 0, 1), (0, 1, 1, 0)
        self.assertIs(follows.is_changes(council, one, other, (one, middle, other)), True)
        self.assertIs(follows.is_changes(council, one, other, (one, beside, other)), True)
        for thing in ((one, other), (one, middle, one, beside, other), (one, middle, middle, other), (one, middle),
                      (middle, one, other), (other, beside, one), [one, middle, other], (one, list(middle), other),
                      (one, middle, other, other), (one,), ()):
            self.assertIs(follows.is_changes(council, one, other, thing), False, thing)
        self.assertIs(follows.is_changes(council, one, one, (one,)), True)
        self.assertIs(follows.is_changes(council, one, one, (one, one)), False)
        self.assertIs(follows.is_changes(council, one, one, (other,)), False)

    def test_is_laying(self):
        for seed, council in enumerate(samples.SOUND[::7]):
            prices = samples.prices_for(council, seed)
            right = [follows.laying(council, prices)]
            self.check(follows.is_laying, (council, prices), right,
                       lambda thing, text: reckoning.is_laying(council, prices, thing))

    def test_is_laying_edges(self):
        council, prices = (0, 12, (0, 3), (1, 2)), ((), (), (4, 1), (3, 2))
        good = (((2,), 1), ((2, 3), 1), ((3,), 2))
        self.assertIs(follows.is_laying(council, prices, good), True)
        self.assertIs(follows.is_laying(council, prices, (((2,), 1), ((2, 3), 3))), True)
        for thing in (good[::-1], good[:2], good[1:], (((2,), 1), ((2,), 1), ((3,), 2)), (((2,), 1), ((3,), 3)),
                      (((2,), 1), ((2, 3), 2), ((3,), 2)), (((2,), 1), ((2, 3), 0), ((2, 3), 3)), (((), 4),),
                      (((2,), 1), ((2, 3), 1), ((2, 3), 2)), (((2,), 1), ((2, 3), 1), ((2, 3), 3)),
                      (((2,), 1), ((3, 2), 3)), (((0,), 1), ((2,), 1), ((2, 3), 2)), (((2,), True), ((2, 3), 3)),
                      (((2,), 1), ((2, 3), 1), ((3,), 1), ((3,), 2)), (((2,), 2), ((2, 3), 3)), ()):
            self.assertIs(follows.is_laying(council, prices, thing), False, thing)
        free = ((), (), (0, 0), (0, 0))
        self.assertIs(follows.is_laying(council, free, ()), True)
        self.assertIs(follows.is_laying(council, free, (((2,), 0),)), False)
        self.assertIs(follows.is_laying((5, 7), ((), ()), ()), True)

    def test_lists_may_stand_for_all_but_the_thing(self):
        council, weights = [0, 1, [0, 1]], [[], [], [1, 1]]
        self.assertIs(voices.is_weights(council, ((), (), (1, 1))), True)
        self.assertIs(voices.is_weights(council, weights), False)
        self.assertIs(voices.is_voice(council, weights, ((0, 1), (1, 1), (1, 2))), True)
        self.assertIs(follows.is_following(council, [0, 1, 1]), False)
        self.assertIs(follows.is_changes(council, [0, 1, 0], [0, 1, 1], ((0, 1, 0), (0, 1, 1))), True)
        self.assertIs(follows.is_laying(council, [[], [], [2, 1]], (((2,), 1),)), True)


if __name__ == "__main__":
    unittest.main()
