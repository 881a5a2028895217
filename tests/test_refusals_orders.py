"""Promises 2 and 3 at orders, unknown, bounds and lots: which refusal comes first, and what it is raised with."""

from tests import calls, refusing
from tests.refusing import ANY, SAD, SADT, SADV, SADW
from whomheeds import bounds, lots, orders, unknown
from whomheeds.errors import Lost, NoAsker, NoFirm, NoMember, NoNumber, Unfit

C, W, V, OFF, GAP = calls.C, calls.W, calls.V, calls.OFF, calls.GAP
# 0 and 4 are firm and hold 4 and 9: by this 0 does not hold its number.
WRONG = ((5, 1),) + SADV[1:]
SADO = ((0, 1, 2, 3), (4, 5, 6))
SADB = ((), ((1, 2),), ((1, 1),), ((1, 2), (3, 3)), (), ((1, 1),), ((2, 2),))
SADL = ((), (2,), (1,), (0, 1), (), (6,), (5,))

# Function, arguments, error, what it tells: of two or more that are due the one that comes first.
FIRST_COME = (
    (orders.misfits, (SAD, WRONG), Lost, 1), (orders.misfits, (C, OFF), Unfit, None),
    (orders.can_be_voice, (SAD, WRONG), Lost, 1), (orders.can_be_voice, (C, OFF), Unfit, None),
    (orders.weights_of_voice, (SAD, WRONG), Lost, 1), (orders.weights_of_voice, (C, OFF), Unfit, None),
    (orders.is_weights_of, (SAD, WRONG, None), Lost, 1), (orders.is_weights_of, (C, OFF, None), Unfit, None),
    (orders.is_weights_of, (C, OFF, W), Unfit, None),
    (orders.may_hold, (SAD, WRONG, -1), NoMember, -1), (orders.may_hold, (SAD, WRONG, 7), NoMember, 7),
    (orders.may_hold, (SAD, WRONG, 0), NoAsker, 0), (orders.may_hold, (SAD, WRONG, 3), Lost, 1),
    (orders.may_hold, (C, OFF, 2), Unfit, None), (orders.may_hold, (C, OFF, 1), NoAsker, 1),
    (orders.mended_by, (SAD, WRONG), Lost, 1), (orders.mended_by, (C, OFF), Unfit, None),
    (orders.is_order, (SAD, None), Lost, 1), (orders.is_order, (SAD, SADO), Lost, 1),
    (orders.order_of, (SAD, WRONG), Lost, 1), (orders.order_of, (C, OFF), Unfit, None),
    (orders.is_let, (SAD, SADO), Lost, 1), (orders.is_let, (SAD, ((0, 7), (-1,))), NoMember, 7),
    (orders.voice_with, (SAD, SADO), Lost, 1), (orders.voice_with, (SAD, ((-1, 7),)), NoMember, -1),
    (orders.is_voice_with, (SAD, SADO, None), Lost, 1), (orders.is_voice_with, (SAD, SADO, SADV), Lost, 1),
    (orders.is_voice_with, (SAD, ((7, 8),), None), NoMember, 7),
    (orders.all_orders, (SAD,), Lost, 1),
    (orders.how_they_stand, (SAD, 7, -1), NoMember, 7), (orders.how_they_stand, (SAD, 3, -1), NoMember, -1),
    (orders.how_they_stand, (SAD, 0, 0), Lost, 1),

    (unknown.is_told_order, (SAD, None), Lost, 1), (unknown.is_told_order, (SAD, ((0, 4),)), Lost, 1),
    (unknown.at_most, (SAD, ((0, 3), (4, 7)), -1, 8), NoMember, 7), (unknown.at_most, (SAD, ((0, 3),), -1, 8), NoMember, -1),
    (unknown.at_most, (SAD, ((0, 3),), 1, 8), NoMember, 8), (unknown.at_most, (SAD, ((0, 3), (1, 4)), 1, 2), NoFirm, 3),
    (unknown.at_most, (SAD, ((0, 4),), 1, 2), Lost, 1), (unknown.at_most, (SAD, (), 0, 0), Lost, 1),
    (unknown.needed_pairs, (SAD, 7, -1), NoMember, 7), (unknown.needed_pairs, (SAD, 3, -1), NoMember, -1),
    (unknown.needed_pairs, (SAD, 0, 0), Lost, 1),
    (unknown.least_by_firm, (SAD, ((-1, 1, 2), (7, 1, 2)), SADT), NoMember, -1),
    (unknown.least_by_firm, (SAD, ((0, 100, 200), (3, 1, 2)), SADT), NoFirm, 3),
    (unknown.least_by_firm, (SAD, ((1, 1, 2), (7, 1, 2)), SADT), NoMember, 7),
    (unknown.least_by_firm, (SAD, ((0, 1, 2),), SADT), Lost, 1), (unknown.least_by_firm, (SAD, (), SADT), Lost, 1),
    (unknown.greatest_by_firm, (SAD, ((-1, 1, 2), (7, 1, 2)), SADT), NoMember, -1),
    (unknown.greatest_by_firm, (SAD, ((3, 1, 2), (6, 1, 2)), SADT), NoFirm, 3),
    (unknown.greatest_by_firm, (SAD, ((0, 1, 2),), SADT), Lost, 1),
    (unknown.stretch_by_firm, (SAD, ((3, 1, 2), (7, 1, 2)), -1), NoMember, 7),
    (unknown.stretch_by_firm, (SAD, ((3, 1, 2),), -1), NoMember, -1),
    (unknown.stretch_by_firm, (SAD, ((3, 1, 2),), 7), NoMember, 7), (unknown.stretch_by_firm, (SAD, ((3, 1, 2),), 3), NoFirm, 3),
    (unknown.stretch_by_firm, (SAD, ((0, 1, 2),), 0), Lost, 1),

    (bounds.nth_corner, (SAD, SADB, 4), NoNumber, 4), (bounds.nth_corner, (SAD, SADB, -1), NoNumber, -1),
    (bounds.nth_corner, (C, calls.BOUNDS, 10 ** 30), NoNumber, 10 ** 30), (bounds.nth_corner, ((5,), ((),), 1), NoNumber, 1),
    (bounds.highest_voice, (SAD, SADB), Lost, 1), (bounds.lowest_voice, (SAD, SADB), Lost, 1),
    (bounds.highest_corner, (SAD, SADB), Lost, 1), (bounds.lowest_corner, (SAD, SADB), Lost, 1),
    (bounds.is_highest, (SAD, SADB, None), Lost, 1), (bounds.is_highest, (SAD, SADB, SADW), Lost, 1),
    (bounds.is_lowest, (SAD, SADB, None), Lost, 1), (bounds.is_lowest, (SAD, SADB, SADW), Lost, 1),
    (bounds.may_hold_within, (SAD, SADB, -1, (1, 1)), NoMember, -1),
    (bounds.may_hold_within, (SAD, SADB, 7, (1, 1)), NoMember, 7), (bounds.may_hold_within, (SAD, SADB, 0, (4, 1)), Lost, 1),
    (bounds.least_within, (SAD, SADB, SADT), Lost, 1), (bounds.greatest_within, (SAD, SADB, SADT), Lost, 1),
    (bounds.corner_of_least, (SAD, SADB, SADT), Lost, 1), (bounds.corner_of_greatest, (SAD, SADB, SADT), Lost, 1),
    (bounds.against_within, (SAD, SADB, SADT), Lost, 1), (bounds.is_against_within, (SAD, SADB, SADT, None), Lost, 1),
    (bounds.is_against_within, (SAD, SADB, SADT, SADW), Lost, 1),
    (bounds.weights_within, (SAD, SADB, SADT, (0, 1)), Lost, 1),
    (bounds.is_weights_within, (SAD, SADB, SADT, (0, 1), None), Lost, 1),
    (bounds.is_weights_within, (SAD, SADB, SADT, (0, 1), SADW), Lost, 1),

    (lots.is_heeds, (SAD, None), Lost, 1), (lots.is_heeds, (SAD, ((3, 0, 1),)), Lost, 1),
    (lots.lots_of, (SAD, ((0, 7, 1),), -1), NoMember, 7), (lots.lots_of, (SAD, ((0, 3, 1),), -1), NoMember, -1),
    (lots.lots_of, (SAD, ((0, 3, 1),), 4), NoAsker, 0), (lots.lots_of, (SAD, (), 4), NoAsker, 4),
    (lots.lots_of, (SAD, (), 7), NoMember, 7), (lots.lots_of, (SAD, (), 3), Lost, 1),
    (lots.value_by_lots, (SAD, SADL, SADT), Lost, 1),
    (lots.value_by_lots, (C, calls.SHUT, GAP), Unfit, None),
    (lots.value_by_lots, (C, ((), (), (3,), (2, 5), ()), GAP), NoMember, 5),
    (lots.heeded_range, (SAD, ((0, 7, 1),), -1), NoMember, 7), (lots.heeded_range, (SAD, ((0, 3, 1),), -1), NoMember, -1),
    (lots.heeded_range, (SAD, ((0, 3, 1),), 7), NoMember, 7), (lots.heeded_range, (SAD, ((0, 3, 1),), 3), NoAsker, 0),
    (lots.heeded_range, (SAD, (), 0), Lost, 1),
)

# The same for the functions with an order, pair by pair; what follows it is handed in behind.
ORDERS = (
    (SAD, ((0, 3), (4, -1), (7, 0)), NoMember, -1), (SAD, ((0, 7), (3, 8)), NoMember, 7), (SAD, ((-1, 7),), NoMember, -1),
    (SAD, ((0, 3), (1, 4)), NoFirm, 3), (SAD, ((0, 4), (2, 4)), NoFirm, 2), (SAD, ((0, 4),), Lost, 1), (SAD, (), Lost, 1),
    (C, ((0, 1), (1, 3)), NoFirm, 3), (C, ((2, 1), (3, 5)), NoMember, 5),
)
WITH_ORDER = ((unknown.is_in_order, (None,)), (unknown.is_in_order, (((0, 1), (4, 2)),)), (unknown.upward_sets, ()),
              (unknown.holds_in_order, (SADT,)), (unknown.holds_from_zero, (SADT,)), (unknown.against_in_order, (SADT,)),
              (unknown.is_against_in_order, (SADT, "x")), (unknown.is_against_in_order, (SADT, (ANY, ((0, 1), (4, 2))))),
              (unknown.against_from_zero, (SADT,)), (unknown.is_against_from_zero, (SADT, "x")),
              (unknown.is_nothing_in_order, (SADT,)), (unknown.idle_pairs, (SADT,)))

# The same for the functions with heeds, triple by triple.
HEEDS = (
    (SAD, ((0, 3, 1), (3, -1, 7)), NoMember, -1), (SAD, ((3, 0, 7), (8, 0, 1)), NoMember, 7), (SAD, ((7, -1, 0),), NoMember, 7),
    (SAD, ((3, 0, 1), (4, 0, 1), (0, 1, 2)), NoAsker, 4), (SAD, ((3, 0, 1),), Lost, 1), (SAD, (), Lost, 1),
    (C, ((2, 0, 3), (1, 0, 3)), NoAsker, 1), (C, ((1, 0, 3), (2, 0, 5)), NoMember, 5),
)
WITH_HEEDS = ((lots.all_heeds, ()), (lots.needless_heeds, ()), (lots.keeps_heeds, (SADW,)), (lots.all_lots, ()),
              (lots.heeded, (SADT,)), (lots.holds_heeded, (SADT, 1)), (lots.strictly_heeded, (SADT, 1)),
              (lots.heeding_against, (SADT, 1)), (lots.is_heeding_against, (SADT, 1, None)),
              (lots.is_heeding_against, (SADT, 1, SADW)), (lots.heeding_weights, (SADT, (0, 1))),
              (lots.is_heeding, (SADT, (0, 1), None)), (lots.is_heeding, (SADT, (0, 1), SADW)), (lots.high_lots, ()),
              (lots.low_lots, ()), (lots.is_high_lots, (None,)), (lots.is_high_lots, (SADL,)), (lots.is_low_lots, ("x",)),
              (lots.is_low_lots, (SADL,)))

NEVER_LOST = (bounds.is_bounds, bounds.fit_bounds, bounds.narrower, bounds.is_corner, bounds.how_many_corners,
              bounds.nth_corner)


class Refusals(refusing.Case):

    def test_first_come(self):
        for function, arguments, error, told in FIRST_COME:
            self.check(function, arguments, error, told)

    def test_orders(self):
        for function, more in WITH_ORDER:
            for council, order, error, told in ORDERS:
                self.check(function, (council, order) + more, error, told)

    def test_heeds(self):
        for function, more in WITH_HEEDS:
            for council, heeds, error, told in HEEDS:
                self.check(function, (council, heeds) + more, error, told)

    def test_lost_is_raised_by_every_function_but_those_of_bounds_alone(self):
        raising = [function for function, _, error, told in FIRST_COME if error is Lost and told == 1]
        raising += [function for function, _ in WITH_ORDER + WITH_HEEDS]
        self.assertEqual([function for function in NEVER_LOST if function in raising], [])
        self.check_all_are_there(raising + list(NEVER_LOST), (orders, unknown, bounds, lots))

    def test_bounds_alone_do_not_ask_for_a_sound_council(self):
        self.assertIs(bounds.is_bounds(SAD, SADB), True)
        self.assertIs(bounds.is_bounds(SAD, SADW), False)
        self.assertIs(bounds.fit_bounds(SAD, SADB, ((), (9,), (1,), (2, 3), (), (1,), (2,))), True)
        self.assertIs(bounds.fit_bounds(SAD, SADB, ((), (9,), (1,), (7, 9), (), (1,), (2,))), False)
        self.assertIs(bounds.narrower(SAD, SADB, SADB), True)
        self.assertIs(bounds.is_corner(SAD, SADB, ((), (2,), (1,), (1, 3), (), (1,), (2,))), True)
        self.assertEqual(bounds.how_many_corners(SAD, SADB), 4)
        self.assertEqual(bounds.nth_corner(SAD, SADB, 2), ((), (2,), (1,), (1, 3), (), (1,), (2,)))

    def test_lost_though_nobody_asked_about_reaches_it(self):
        """2 and 3 are shut in; nobody else reaches them."""
        council, voice = (5, (0,), (3,), (2,)), ((5, 1), (5, 1), (1, 1), (1, 1))
        for function, arguments in ((orders.may_hold, (voice, 1)), (orders.how_they_stand, (0, 1)),
                                    (unknown.stretch_by_firm, ((), 1)), (unknown.at_most, ((), 1, 0)),
                                    (bounds.may_hold_within, (((), ((1, 2),), ((1, 1),), ((1, 1),)), 1, (5, 1))),
                                    (lots.lots_of, ((), 1)), (lots.heeded_range, ((), 0))):
            self.check(function, (council,) + arguments, Lost, 2)

    def test_nothing_is_changed_where_something_is_raised(self):
        council, order, total = [5, [0, 2], [1, 3], 9], [[0, 3], [3, 1]], [1, 0, 0, -1]
        with self.assertRaises(NoFirm):
            unknown.idle_pairs(council, order, total)
        voice, heeds = [[5, 1], [6, 1], [7, 1], [8, 1]], [[1, 0, 2], [3, 1, 2]]
        with self.assertRaises(Unfit):
            orders.order_of(council, voice)
        with self.assertRaises(NoAsker):
            lots.heeded(council, heeds, total)
        rows = [[], [[1, 2], [3, 3]], [[1, 1], [1, 1]], []]
        with self.assertRaises(NoNumber):
            bounds.nth_corner(council, rows, 2)
        self.assertEqual((council, order, total), ([5, [0, 2], [1, 3], 9], [[0, 3], [3, 1]], [1, 0, 0, -1]))
        self.assertEqual((voice, heeds), ([[5, 1], [6, 1], [7, 1], [8, 1]], [[1, 0, 2], [3, 1, 2]]))
        self.assertEqual(rows, [[], [[1, 2], [3, 3]], [[1, 1], [1, 1]], []])
