"""Promises 2 and 3 at ranges, gates, sums and between: which refusal comes first, and what it is raised with."""

from tests import calls, refusing
from tests.refusing import ANY, SAD, SADT, SADW
from whomheeds import between, gates, ranges, sums
from whomheeds.errors import Lost, NoAsker, NoFirm, NoMember, NoWord, Unfit

C, W, GAP = calls.C, calls.W, calls.GAP
BELOW = (0, 0, -1, 0, 0, 0, 0)

# Function, arguments, error, what it tells: of two or more that are due the one that comes first.
FIRST_COME = (
    (ranges.ends_at, (SAD, 7), NoMember, 7), (ranges.ends_at, (SAD, -1), NoMember, -1), (ranges.ends_at, (SAD, 3), Lost, 1),
    (ranges.ends_at, (SAD, 0), Lost, 1), (ranges.ends_at, (SAD, 4), Lost, 1),
    (ranges.least_held, (SAD, 7), NoMember, 7), (ranges.least_held, (SAD, -1), NoMember, -1),
    (ranges.least_held, (SAD, 4), Lost, 1), (ranges.least_held, (SAD, 1), Lost, 1),
    (ranges.greatest_held, (SAD, 7), NoMember, 7), (ranges.greatest_held, (SAD, -1), NoMember, -1),
    (ranges.greatest_held, (SAD, 4), Lost, 1), (ranges.greatest_held, (SAD, 6), Lost, 1),
    (ranges.can_hold, (SAD, 7, (1, 1)), NoMember, 7), (ranges.can_hold, (SAD, -1, (1, 1)), NoMember, -1),
    (ranges.can_hold, (SAD, 3, (1, 1)), Lost, 1),
    (ranges.always_above, (SAD, 7, 1), NoMember, 7), (ranges.always_above, (SAD, -1, 1), NoMember, -1),
    (ranges.always_above, (SAD, 3, 1), Lost, 1),
    (ranges.always_from, (SAD, 7, 1), NoMember, 7), (ranges.always_from, (SAD, -1, 1), NoMember, -1),
    (ranges.always_from, (SAD, 3, 1), Lost, 1),
    (ranges.low_weights, (SAD, 7, 1), NoMember, 7), (ranges.low_weights, (SAD, -1, 1), NoMember, -1),
    (ranges.low_weights, (SAD, 3, 1), Lost, 1), (ranges.low_weights, (SAD, 0, 1), Lost, 1),
    (ranges.is_low, (SAD, 7, 1, None), NoMember, 7), (ranges.is_low, (SAD, -1, 1, SADW), NoMember, -1),
    (ranges.is_low, (SAD, 3, 1, "x"), Lost, 1), (ranges.is_low, (SAD, 0, 1, SADW), Lost, 1),
    (ranges.best_following, (SAD, "Least"), NoWord, "Least"), (ranges.best_following, (SAD, ""), NoWord, ""),
    (ranges.best_following, (C, "greatest "), NoWord, "greatest "), (ranges.best_following, (SAD, "least"), Lost, 1),
    (ranges.is_best, (SAD, "best", None), NoWord, "best"), (ranges.is_best, (SAD, "greatest", None), Lost, 1),
    (ranges.is_best, (C, "", None), NoWord, ""),
    (ranges.plain_value, (SAD, "more", BELOW), NoWord, "more"), (ranges.plain_value, (SAD, "least", BELOW), Lost, 1),
    (ranges.plain_value, (C, "", (0, 0, -1, 0, 0)), NoWord, ""), (ranges.plain_value, (C, "least", GAP), Unfit, None),
    (ranges.plain_value, (C, "greatest", GAP), Unfit, None),

    (gates.gates, (SAD, 7), NoMember, 7), (gates.gates, (SAD, -1), NoMember, -1), (gates.gates, (SAD, 0), Lost, 1),
    (gates.is_gate, (SAD, 7, -1), NoMember, 7), (gates.is_gate, (SAD, 3, -1), NoMember, -1),
    (gates.is_gate, (SAD, -1, 7), NoMember, -1), (gates.is_gate, (SAD, 1, 7), NoMember, 7),
    (gates.is_gate, (SAD, 3, 3), Lost, 1),
    (gates.next_gate, (SAD, 7), NoMember, 7), (gates.next_gate, (SAD, -1), NoMember, -1),
    (gates.next_gate, (SAD, 0), Lost, 1),
    (gates.leader, (SAD, 7), NoMember, 7), (gates.leader, (SAD, -1), NoMember, -1), (gates.leader, (SAD, 3), Lost, 1),
    (gates.led_by, (SAD, 7), NoMember, 7), (gates.led_by, (SAD, -1), NoMember, -1), (gates.led_by, (SAD, 3), Lost, 1),
    (gates.common_gates, (SAD, (-1, 0, 7)), NoMember, -1), (gates.common_gates, (SAD, (0, 7, 8)), NoMember, 7),
    (gates.common_gates, (SAD, (0, 3)), Lost, 1),
    (gates.lots_by_leader, (SAD,), Lost, 1), (gates.lots_alike, (SAD,), Lost, 1),
    (gates.alike_always, (SAD, 7, -1), NoMember, 7), (gates.alike_always, (SAD, 3, -1), NoMember, -1),
    (gates.alike_always, (SAD, 3, 3), Lost, 1),
    (gates.alike, (SAD, -1, 7), NoMember, -1), (gates.alike, (SAD, 3, 7), NoMember, 7), (gates.alike, (SAD, 3, 3), Lost, 1),
    (gates.apart_roads, (SAD, 7, -1), NoMember, 7), (gates.apart_roads, (SAD, 3, -1), NoMember, -1),
    (gates.apart_roads, (SAD, 0, 4), Lost, 1),
    (gates.unlike_roads, (SAD, -1, 7), NoMember, -1), (gates.unlike_roads, (SAD, 3, 7), NoMember, 7),
    (gates.unlike_roads, (SAD, 0, 4), Lost, 1),
    (gates.is_apart_roads, (SAD, 7, -1, None), NoMember, 7), (gates.is_apart_roads, (SAD, 3, -1, None), NoMember, -1),
    (gates.is_apart_roads, (SAD, 0, 4, "x"), Lost, 1), (gates.is_apart_roads, (SAD, 0, 4, ((0,), (4,))), Lost, 1),
    (gates.is_unlike_roads, (SAD, 7, -1, None), NoMember, 7), (gates.is_unlike_roads, (SAD, 3, -1, None), NoMember, -1),
    (gates.is_unlike_roads, (SAD, 0, 4, "x"), Lost, 1), (gates.is_unlike_roads, (SAD, 0, 4, ((0,), (4,))), Lost, 1),
    (gates.parting_arcs, (SAD, 7, -1), NoMember, 7), (gates.parting_arcs, (SAD, 3, -1), NoMember, -1),
    (gates.parting_arcs, (SAD, 3, 0), Lost, 1),

    (sums.value_at, (SAD, ANY, SADT), Lost, 1), (sums.least_value, (SAD, SADT), Lost, 1),
    (sums.greatest_value, (SAD, SADT), Lost, 1), (sums.sign_of, (SAD, SADT), Lost, 1),
    (sums.holds, (SAD, SADT, 1), Lost, 1),
    (sums.beside, (SAD, 7, -1), NoMember, 7), (sums.beside, (SAD, 3, -1), NoMember, -1),
    (sums.beside, (SAD, 3, 7), NoMember, 7), (sums.beside, (SAD, 0, 0), Lost, 1),
    (sums.surely_below, (SAD,), Lost, 1), (sums.against, (SAD, SADT, 0), Lost, 1),
    (sums.is_against, (SAD, SADT, 0, None), Lost, 1), (sums.is_against, (SAD, SADT, 0, ANY), Lost, 1),
    (sums.loud, (SAD, ANY, 3), Lost, 1), (sums.weights_against, (SAD, SADT, 0), Lost, 1),
    (sums.is_weights_against, (SAD, SADT, 0, None), Lost, 1), (sums.is_weights_against, (SAD, SADT, 0, SADW), Lost, 1),
    (sums.wish_of, (SAD, SADT), Lost, 1),

    (between.comes, (SAD, SADT, (0, 1)), Lost, 1), (between.weights_for, (SAD, SADT, (0, 1)), Lost, 1),
    (between.is_weights_for, (SAD, SADT, (0, 1), None), Lost, 1),
    (between.is_weights_for, (SAD, SADT, (0, 1), SADW), Lost, 1),
    (between.set_row, (SAD, SADW, -1, ()), NoMember, -1), (between.set_row, (SAD, SADW, 7, ()), NoMember, 7),
    (between.set_row, (SAD, SADW, 0, ()), NoAsker, 0), (between.set_row, (SAD, SADW, 3, (1, 2)), Lost, 1),
    (between.mixed, (SAD, SADW, -1, (), (0, 1)), NoMember, -1), (between.mixed, (SAD, SADW, 7, (), (0, 1)), NoMember, 7),
    (between.mixed, (SAD, SADW, 4, (), (0, 1)), NoAsker, 4), (between.mixed, (SAD, SADW, 3, (1, 2), (0, 1)), Lost, 1),
    (between.way_of, (SAD, SADW, -1, (), SADT), NoMember, -1), (between.way_of, (SAD, SADW, 7, (), SADT), NoMember, 7),
    (between.way_of, (SAD, SADW, 0, (), SADT), NoAsker, 0), (between.way_of, (SAD, SADW, 3, (1, 2), SADT), Lost, 1),
    (between.crossing, (SAD, SADW, -1, (), SADT, (0, 1)), NoMember, -1),
    (between.crossing, (SAD, SADW, 7, (), SADT, (0, 1)), NoMember, 7),
    (between.crossing, (SAD, SADW, 0, (), SADT, (0, 1)), NoAsker, 0),
    (between.crossing, (SAD, SADW, 3, (1, 2), SADT, (0, 1)), Lost, 1),
    (between.steps_between, (SAD, SADW, SADW), Lost, 1), (between.step_at, (SAD, SADW, SADW, SADT, (0, 1)), Lost, 1),
    (between.between_weights, (SAD, SADW, SADW, SADT, (0, 1)), Lost, 1),
)

# The same for the functions with a wish; what follows it is handed in behind.
WISHES = (
    (SAD, ((0, 1, 3), (-1, 0, 3), (7, 0, 1)), NoMember, -1), (SAD, ((0, 1, 3), (1, 7, 3), (-1, 0, 1)), NoMember, 7),
    (SAD, ((-1, 7, 3),), NoMember, -1), (SAD, ((7, -1, 3),), NoMember, 7),
    (SAD, ((1, 0, 99), (0, 3, -99), (0, 1, 3)), NoFirm, 3), (SAD, ((1, 0, 3),), Lost, 1), (SAD, (), Lost, 1),
    (C, ((2, 0, 1), (0, 3, 1)), NoFirm, 3), (C, ((2, 0, 1), (0, 3, 1), (5, 0, 1)), NoMember, 5),
)
WITH_WISH = ((sums.least_wish, ()), (sums.greatest_wish, ()), (sums.sign_of_wish, ()), (sums.against_wish, (0,)),
             (sums.is_against_wish, (0, "x")), (sums.is_against_wish, (10, ANY)))


class Refusals(refusing.Case):

    def test_first_come(self):
        for function, arguments, error, told in FIRST_COME:
            self.check(function, arguments, error, told)

    def test_wishes(self):
        for function, more in WITH_WISH:
            for council, wish, error, told in WISHES:
                self.check(function, (council, wish) + more, error, told)

    def test_lost_is_raised_by_every_function(self):
        raising = [function for function, _, error, told in FIRST_COME if error is Lost and told == 1]
        self.check_all_are_there(raising + [function for function, _ in WITH_WISH], (ranges, gates, sums, between))

    def test_lost_though_nobody_asked_about_reaches_it(self):
        """2 and 3 are shut in; nobody else reaches them."""
        council = (5, (0,), (3,), (2,))
        weights = ((), (1,), (1,), (1,))
        for function, arguments in ((ranges.least_held, (1,)), (ranges.is_low, (0, 9, weights)), (gates.leader, (1,)),
                                    (gates.alike, (0, 0)), (gates.is_apart_roads, (0, 1, None)),
                                    (sums.beside, (0, 1)), (sums.is_against, ((0, 0, 0, 0), 1, (0, 0, 3, 2))),
                                    (between.set_row, (weights, 1, (3,)))):
            self.check(function, (council,) + arguments, Lost, 2)

    def test_nothing_is_changed_where_something_is_raised(self):
        council, rows, row = [5, [0, 2], [1, 3], 9], [[], [1, 1], [1, 1], []], [3, 4]
        with self.assertRaises(NoAsker):
            between.mixed(council, rows, 0, row, [1, 2])
        with self.assertRaises(NoMember):
            gates.common_gates(council, [1, 4])
        with self.assertRaises(Unfit):
            ranges.plain_value(council, "least", [0, -1, 0, 0])
        self.assertEqual((council, rows, row), ([5, [0, 2], [1, 3], 9], [[], [1, 1], [1, 1], []], [3, 4]))

    def test_tuples_stand_in_what_is_raised(self):
        with self.assertRaises(NoWord) as caught:
            ranges.best_following([5, [0]], "x")
        self.assertEqual(vars(caught.exception), {"word": "x"})
