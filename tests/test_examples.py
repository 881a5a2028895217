"""Every example of sections 3 to 5 of the document, word for word."""

import unittest

from whomheeds import councils, errors, follows, voices

COUNCILS = """
    >>> council, ring = (5, (0, 2), (1, 3), 9), (4, (2,), (1,), (0, 1))
    >>> is_council(council), is_council((5, (0, 0))), askers(council), asked_by(council, 1), arcs_of(ring)
    (True, False, (1, 2), (2,), ((1, 2), (2, 1), (3, 0), (3, 1)))
    >>> reached(council, 1), reaching(ring, 1), roads(council, 2, 0), shortest_road(council, 0, 3), is_road(council, (1, 2, 1))
    ((0, 1, 2, 3), (1, 2, 3), [(2, 1, 0)], None, False)
    >>> lost(ring), is_sound(council), needed_arcs(council), needed_arcs((5, (0,), (0, 1)))
    ((1, 2), True, (), ((1, 0),))
    >>> in_rings(council), shortest_ring(council, 2), shortest_ring(ring, 3), together(ring)
    ((1, 2), (2, 1), None, ((0,), (1, 2), (3,)))
    >>> with_arc(council, 1, 3)[1], without_arc(council, 1, 0), made_firm(council, 1, 7)
    ((0, 2, 3), (5, (2,), (1, 3), 9), (5, 7, (1, 3), 9))
    >>> renumbered(council, (3, 1, 2, 0)), put_beside((5,), (7, (0,))), part_of((5, 6, (0,)), 2)
    ((9, (2, 3), (0, 1), 5), (5, 7, (1,)), (5, (0,)))
    >>> made_asker(council, 1, (1, 4))
    raises NoMember(number=4)
    >>> without_arc(ring, 1, 2)
    raises Unfit()
"""

VOICES = """
    >>> council, weights = (0, 12, (0, 3), (1, 2)), ((), (), (1, 2), (1, 1))
    >>> voice_by(council, weights), total_weight(council, weights), weight_to(council, weights, 2, 1), weight_to(council, weights, 3, 1)
    (((0, 1), (12, 1), (6, 1), (9, 1)), 4, 2, 3)
    >>> share(council, weights, 3, 1), shares(council, weights, 2), shares(council, weights, 1)
    ((3, 4), ((1, 2), (1, 2), (0, 1), (0, 1)), ((0, 1), (1, 1), (0, 1), (0, 1)))
    >>> sum_at(council, weights, (0, 0, 1, -1)), wish_at(council, weights, ((3, 0, -2), (2, 1, 4)))
    ((-3, 1), (3, 2))
    >>> more = with_weight(council, weights, 3, 1, 3)
    >>> more, voice_by(council, more), total_weight(council, more), same_shares(council, weights, more)
    (((), (), (1, 2), (3, 1)), ((0, 1), (12, 1), (36, 5), (54, 5)), 10, False)
    >>> louder(council, weights, 2, 5), plain_weights(council, ((), (), (4, 6), (3, 3))), equal_weights(council)
    (((), (), (5, 10), (1, 1)), ((), (), (2, 3), (1, 1)), ((), (), (1, 1), (1, 1)))
    >>> whole_weights(council, ((), (), ((1, 2), (2, 3)), ((1, 1), (1, 4))))
    ((), (), (3, 4), (4, 1))
    >>> voice = ((0, 1), (12, 1), (1, 2), (3, 1))
    >>> mean_of(council, weights, voice, 2), off_means(council, weights, voice), is_voice(council, weights, voice)
    ((2, 1), (2, 3), False)
    >>> voice_by((5, (2,), (1,)), ((), (1,), (1,)))
    raises Lost(number=1)
"""

FOLLOWS = """
    >>> council, weights = (0, 12, (0, 3), (1, 2)), ((), (), (1, 2), (1, 1))
    >>> all_followings(council), ends_of(council, (0, 1, 3, 1)), product_of(council, weights, (0, 1, 3, 1))
    ([(0, 1, 0, 1), (0, 1, 0, 2), (0, 1, 3, 1)], (0, 1, 1, 1), 2)
    >>> how_many(council), how_many_with(council, ((3, 1),)), how_many_ending(council, 3, 1), nth_following(council, 2), place_of(council, (0, 1, 0, 2))
    (3, 2, 2, (0, 1, 3, 1), 1)
    >>> goes_on(council, ((2, 3), (3, 2))), shut_in(council, ((2, 3), (3, 2))), completed(council, ((3, 2),)), completed(council, ((2, 3), (3, 2)))
    (False, (2, 3), (0, 1, 0, 2), None)
    >>> turned(council, (0, 1, 0, 1), 2, 3), changes(council, (0, 1, 0, 2), (0, 1, 3, 1))
    ((0, 1, 3, 1), ((0, 1, 0, 2), (0, 1, 0, 1), (0, 1, 3, 1)))
    >>> dead_arcs((5, (0, 2), (1,))), sure_arcs((5, (0, 2), (1,))), dead_arcs(council)
    (((1, 2),), ((1, 0), (2, 1)), ())
    >>> prices = ((), (), (4, 1), (3, 2))
    >>> cheapest_following(council, prices), price_of(council, prices, (0, 1, 0, 2)), is_laying(council, prices, (((2,), 1), ((2, 3), 1), ((3,), 2)))
    ((0, 1, 3, 1), 6, True)
    >>> turned(council, (0, 1, 0, 2), 2, 3)
    raises Unfit()
"""


def functions():
    """All that the three files hold, by name."""
    found = {}
    for module in (councils, voices, follows):
        found.update({name: part for name, part in vars(module).items() if not name.startswith("_")})
    return found


class Examples(unittest.TestCase):

    def run_examples(self, text):
        names = functions()
        rows = [row.strip() for row in text.strip().splitlines()]
        for row, reply in zip(rows, rows[1:] + [""]):
            if not row.startswith(">>> "):
                continue
            with self.subTest(row):
                if reply.startswith("raises "):
                    self.check_raises(row[4:], reply[7:], names)
                elif reply == "" or reply.startswith(">>> "):
                    exec(row[4:], names)
                else:
                    self.assertEqual(repr(eval(row[4:], names)), reply)

    def check_raises(self, row, reply, names):
        name, told = reply.rstrip(")").split("(")
        with self.assertRaises(getattr(errors, name)) as caught:
            eval(row, names)
        self.assertEqual(", ".join(f"{key}={part!r}" for key, part in vars(caught.exception).items()), told)

    def test_councils(self):
        self.run_examples(COUNCILS)

    def test_voices(self):
        self.run_examples(VOICES)

    def test_follows(self):
        self.run_examples(FOLLOWS)


if __name__ == "__main__":
    unittest.main()
