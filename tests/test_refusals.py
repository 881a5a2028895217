"""Promises 2 and 3: which refusal comes first, function by function, and what it is raised with."""

import unittest

from tests import calls, refusing
from tests.refusing import ANY, SAD, SADV, SADW
from whomheeds import councils, follows, voices
from whomheeds.errors import Lost, NoAsker, NoFirm, NoMember, NoNumber, Unfit

C, W, V = calls.C, calls.W, calls.V
FIRST, SECOND, PRICES = calls.FIRST, calls.SECOND, calls.PRICES

# Function, arguments, error, its number: of two or more that are due the one that comes first.
FIRST_COME = (
    (councils.asked_by, (SAD, 7), NoMember, 7), (councils.asked_by, (SAD, -1), NoMember, -1),
    (councils.reached, (SAD, 7), NoMember, 7), (councils.reached, (SAD, -1), NoMember, -1),
    (councils.reaching, (SAD, 7), NoMember, 7), (councils.reaching, (SAD, -1), NoMember, -1),
    (councils.roads, (SAD, 7, -1), NoMember, 7), (councils.roads, (SAD, 6, -1), NoMember, -1),
    (councils.shortest_road, (SAD, -1, 7), NoMember, -1), (councils.shortest_road, (SAD, 1, 7), NoMember, 7),
    (councils.needed_arcs, (SAD,), Lost, 1),
    (councils.shortest_ring, (SAD, -1), NoMember, -1), (councils.shortest_ring, (SAD, 7), NoMember, 7),
    (councils.shortest_ring, (SAD, 4), NoAsker, 4),
    (councils.with_asker, (SAD, (-1, 0, 7)), NoMember, -1), (councils.with_asker, (SAD, (0, 7, 8)), NoMember, 7),
    (councils.with_asker, (SAD, ()), Unfit, None),
    (councils.with_arc, (SAD, 7, -1), NoMember, 7), (councils.with_arc, (SAD, 0, -1), NoMember, -1),
    (councils.with_arc, (SAD, 0, 7), NoMember, 7), (councils.with_arc, (SAD, 4, 4), NoAsker, 4),
    (councils.with_arc, (SAD, 3, 3), Unfit, None), (councils.with_arc, (SAD, 3, 1), Unfit, None),
    (councils.without_arc, (SAD, 7, -1), NoMember, 7), (councils.without_arc, (SAD, 0, -1), NoMember, -1),
    (councils.without_arc, (SAD, 0, 7), NoMember, 7), (councils.without_arc, (SAD, 4, 4), NoAsker, 4),
    (councils.without_arc, (SAD, 3, 2), Unfit, None), (councils.without_arc, (SAD, 1, 2), Unfit, None),
    (councils.made_firm, (SAD, 7, 3), NoMember, 7), (councils.made_firm, (SAD, -1, 3), NoMember, -1),
    (councils.made_asker, (SAD, 7, (-1, 8)), NoMember, 7), (councils.made_asker, (SAD, -1, ()), NoMember, -1),
    (councils.made_asker, (SAD, 3, (-1, 3, 7)), NoMember, -1), (councils.made_asker, (SAD, 3, (3, 7)), NoMember, 7),
    (councils.made_asker, (SAD, 3, ()), Unfit, None), (councils.made_asker, (SAD, 0, (0, 1)), Unfit, None),
    (councils.without_member, (SAD, 7), NoMember, 7), (councils.without_member, ((5,), -1), NoMember, -1),
    (councils.without_member, ((5,), 0), Unfit, None), (councils.without_member, (SAD, 0), Unfit, None),
    (councils.renumbered, (SAD, (0, 0, 7, -1)), NoMember, 7), (councils.renumbered, (SAD, (0, 0, -1)), NoMember, -1),
    (councils.renumbered, (SAD, (0, 1, 2, 3, 4, 5)), Unfit, None), (councils.renumbered, (SAD, ()), Unfit, None),
    (councils.renumbered, (SAD, (0, 1, 2, 3, 4, 5, 6, 6)), Unfit, None),
    (councils.renumbered, (SAD, (0, 1, 2, 3, 4, 5, 5)), Unfit, None),
    (councils.part_of, (SAD, 7), NoMember, 7), (councils.part_of, (SAD, -1), NoMember, -1),

    (voices.is_weights, (SAD, None), Lost, 1), (voices.equal_weights, (SAD,), Lost, 1),
    (voices.louder, (SAD, SADW, -1, 2), NoMember, -1), (voices.louder, (SAD, SADW, 7, 2), NoMember, 7),
    (voices.louder, (SAD, SADW, 0, 2), NoAsker, 0), (voices.louder, (SAD, SADW, 3, 2), Lost, 1),
    (voices.with_weight, (SAD, SADW, 7, -1, 2), NoMember, 7), (voices.with_weight, (SAD, SADW, 0, -1, 2), NoMember, -1),
    (voices.with_weight, (SAD, SADW, 4, 7, 2), NoMember, 7), (voices.with_weight, (SAD, SADW, 4, 3, 2), NoAsker, 4),
    (voices.with_weight, (SAD, SADW, 3, 2, 2), Lost, 1), (voices.with_weight, (C, W, 3, 3, 2), Unfit, None),
    (voices.with_weight, (C, W, 4, 4, 2), NoAsker, 4),
    (voices.plain_weights, (SAD, SADW), Lost, 1),
    (voices.whole_weights, (SAD, ((), ((1, 1),), ((1, 1),), ((1, 1), (1, 1)), (), ((1, 1),), ((1, 1),))), Lost, 1),
    (voices.mean_of, (SAD, SADW, SADV, -1), NoMember, -1), (voices.mean_of, (SAD, SADW, SADV, 7), NoMember, 7),
    (voices.mean_of, (SAD, SADW, SADV, 0), NoAsker, 0), (voices.mean_of, (SAD, SADW, SADV, 3), Lost, 1),
    (voices.off_means, (SAD, SADW, SADV), Lost, 1), (voices.voice_by, (SAD, SADW), Lost, 1),
    (voices.is_voice, (SAD, SADW, "x"), Lost, 1),
    (voices.share, (SAD, SADW, 7, -1), NoMember, 7), (voices.share, (SAD, SADW, 3, -1), NoMember, -1),
    (voices.share, (SAD, SADW, -1, 1), NoMember, -1), (voices.share, (SAD, SADW, 3, 7), NoMember, 7),
    (voices.share, (SAD, SADW, 1, 3), NoFirm, 3), (voices.share, (SAD, SADW, 1, 0), Lost, 1),
    (voices.shares, (SAD, SADW, 7), NoMember, 7), (voices.shares, (SAD, SADW, -1), NoMember, -1),
    (voices.shares, (SAD, SADW, 0), Lost, 1),
    (voices.same_shares, (SAD, SADW, SADW), Lost, 1), (voices.total_weight, (SAD, SADW), Lost, 1),
    (voices.weight_to, (SAD, SADW, 7, -1), NoMember, 7), (voices.weight_to, (SAD, SADW, 3, -1), NoMember, -1),
    (voices.weight_to, (SAD, SADW, -1, 1), NoMember, -1), (voices.weight_to, (SAD, SADW, 3, 7), NoMember, 7),
    (voices.weight_to, (SAD, SADW, 1, 3), NoFirm, 3), (voices.weight_to, (SAD, SADW, 1, 0), Lost, 1),
    (voices.sum_at, (SAD, SADW, (0,) * 7), Lost, 1),
    (voices.wish_at, (SAD, SADW, ((0, 1, 3), (-1, 0, 3), (7, 0, 1))), NoMember, -1),
    (voices.wish_at, (SAD, SADW, ((0, 1, 3), (1, 7, 3), (-1, 0, 1))), NoMember, 7),
    (voices.wish_at, (SAD, SADW, ((-1, 7, 3),)), NoMember, -1),
    (voices.wish_at, (SAD, SADW, ((1, 0, 99), (0, 3, -99), (0, 1, 3))), NoFirm, 3),
    (voices.wish_at, (SAD, SADW, ((1, 0, 3),)), Lost, 1), (voices.wish_at, (SAD, SADW, ()), Lost, 1),

    (follows.is_following, (SAD, ANY), Lost, 1), (follows.ends_of, (SAD, ANY), Lost, 1),
    (follows.product_of, (SAD, SADW, ANY), Lost, 1), (follows.how_many, (SAD,), Lost, 1),
    (follows.all_followings, (SAD,), Lost, 1), (follows.nth_following, (SAD, -1), Lost, 1),
    (follows.nth_following, (SAD, 0), Lost, 1), (follows.nth_following, (C, 3), NoNumber, 3),
    (follows.nth_following, (C, -1), NoNumber, -1), (follows.nth_following, (C, -3), NoNumber, -3),
    (follows.nth_following, (C, 10 ** 30), NoNumber, 10 ** 30), (follows.nth_following, ((5,), 1), NoNumber, 1),
    (follows.place_of, (SAD, ANY), Lost, 1),
    (follows.how_many_ending, (SAD, 7, -1), NoMember, 7), (follows.how_many_ending, (SAD, 3, -1), NoMember, -1),
    (follows.how_many_ending, (SAD, -1, 3), NoMember, -1), (follows.how_many_ending, (SAD, 3, 7), NoMember, 7),
    (follows.how_many_ending, (SAD, 1, 3), NoFirm, 3), (follows.how_many_ending, (SAD, 1, 0), Lost, 1),
    (follows.turned, (SAD, ANY, 7, -1), NoMember, 7), (follows.turned, (SAD, ANY, 0, -1), NoMember, -1),
    (follows.turned, (SAD, ANY, 4, 7), NoMember, 7), (follows.turned, (SAD, ANY, 4, 3), NoAsker, 4),
    (follows.turned, (SAD, ANY, 3, 2), Lost, 1), (follows.turned, (C, FIRST, 2, 1), Unfit, None),
    (follows.turned, (C, FIRST, 4, 4), NoAsker, 4), (follows.turned, (C, FIRST, 3, 3), Unfit, None),
    (follows.turned, (C, SECOND, 2, 3), Unfit, None),
    (follows.changes, (SAD, ANY, ANY), Lost, 1), (follows.is_changes, (SAD, ANY, ANY, "x"), Lost, 1),
    (follows.dead_arcs, (SAD,), Lost, 1), (follows.sure_arcs, (SAD,), Lost, 1),
    (follows.price_of, (SAD, SADW, ANY), Lost, 1), (follows.cheapest_following, (SAD, SADW), Lost, 1),
    (follows.laying, (SAD, SADW), Lost, 1), (follows.is_laying, (SAD, SADW, None), Lost, 1),
)

# The same for the four functions with choices.
CHOICES = (
    (SAD, ((0, 3), (3, -1), (7, 1)), NoMember, -1), (SAD, ((-1, 7), (3, 0)), NoMember, -1),
    (SAD, ((3, 7), (8, 0)), NoMember, 7), (SAD, ((1, 0), (7, 8)), NoMember, 7),
    (SAD, ((0, 3), (3, 4), (4, 0)), NoAsker, 0), (SAD, ((3, 4), (4, 0)), NoAsker, 4),
    (SAD, ((3, 4),), Lost, 1), (SAD, ((3, 0),), Lost, 1), (SAD, (), Lost, 1),
    (C, ((2, 0), (3, 0)), Unfit, None), (C, ((2, 2),), Unfit, None), (C, ((3, 4), (4, 0)), NoAsker, 4),
)
WITH_CHOICES = (follows.how_many_with, follows.goes_on, follows.shut_in, follows.completed)


class Refusals(refusing.Case):

    def test_first_come(self):
        for function, arguments, error, number in FIRST_COME:
            self.check(function, arguments, error, number)

    def test_choices(self):
        for function in WITH_CHOICES:
            for council, choices, error, number in CHOICES:
                self.check(function, (council, choices), error, number)

    def test_lost_is_raised_by_every_function_that_needs_a_sound_council(self):
        raising = [function for function, _, error, number in FIRST_COME if error is Lost and number == 1]
        self.check_all_are_there(raising + list(WITH_CHOICES), (voices, follows))

    def test_lost_is_the_first_lost_one(self):
        for council, number in (((5, (2,), (1,)), 1), (((1, 3), (2,), (1,), 5), 1), (((1,), (0,), 5), 0),
                                ((5, (0,), (1, 3), (4,), (3,)), 3)):
            self.check(follows.how_many, (council,), Lost, number)
            self.check(voices.equal_weights, (council,), Lost, number)
            self.check(councils.needed_arcs, (council,), Lost, number)

    def test_councils_need_not_be_sound(self):
        """No function of the file, but needed_arcs, raises Lost."""
        fitting = {councils.is_road: (ANY,), councils.roads: (1, 2), councils.shortest_road: (1, 2),
                   councils.shortest_ring: (1,), councils.with_firm: (3,), councils.with_asker: ((1,),),
                   councils.with_arc: (1, 3), councils.without_arc: (3, 0), councils.made_firm: (1, 3),
                   councils.made_asker: (0, (1,)), councils.without_member: (3,),
                   councils.renumbered: ((6, 5, 4, 3, 2, 1, 0),), councils.put_beside: (SAD,)}
        for function, names in calls.parameters().items():
            if function.__module__ == councils.__name__ and function is not councils.needed_arcs:
                more = fitting.get(function, (1,) * (len(names) - 1))
                function(SAD, *more)

    def test_nothing_is_changed_where_something_is_raised(self):
        council, some = [5, [0, 2], [1, 3], 9], [1, 4]
        with self.assertRaises(NoMember):
            councils.made_asker(council, 1, some)
        self.assertEqual((council, some), ([5, [0, 2], [1, 3], 9], [1, 4]))
        choices = [[1, 0], [2, 2]]
        with self.assertRaises(Unfit):
            follows.completed(council, choices)
        self.assertEqual((council, choices), ([5, [0, 2], [1, 3], 9], [[1, 0], [2, 2]]))


if __name__ == "__main__":
    unittest.main()
