"""Promise 21: a board, its deeds held against a plain one that keeps all it ever was; each refusal, undo, twins."""

import copy
import inspect
import unittest

from tests import reckoning, samples
from tests.samples import MADE, MANY, SOUND
from whomheeds import board as board_file
from whomheeds import councils
from whomheeds.board import Board
from whomheeds.errors import Lost, NoAsker, NoMember, NothingDone, NoWord, Unfit

METHODS = {"__init__": ("council",), "ask": ("asker", "goal"), "leave": ("asker", "goal"), "settle": ("member", "number"),
           "open_up": ("member", "some"), "enter": ("number",), "hope": ("word", "total"), "drop": ("word",), "undo": (),
           "twin": (), "members": (), "hopes": (), "is_held": ("word",), "held": (), "breaker": ("word",), "span": ("word",),
           "spoilt_by": ("asker", "goal"), "mended_by": ("asker", "goal"), "turned_by": ("member", "number"), "changed": (),
           "idle_arcs": (), "__len__": (), "__eq__": ("other",)}
WORDS = ("gap", "top", "a b", "", "Zz\n", "\u00e9")
SOME = [council for council in SOUND[::29] + MADE[::9] + [(7,), (0, 6, (0, 3), (1, 2)), (5, (0, 2), (1,))] if len(council) < 8]
ENDS = {}


def all_ends(council):
    if council not in ENDS:
        ENDS[council] = sorted({reckoning.ends(row) for row in reckoning.followings(council)})
    return ENDS[council]


def values(council, total):
    return [sum(n * council[end] for n, end in zip(total, ends)) for ends in all_ends(council)]


def is_sound(council):
    return all(reckoning.firm_roads(council, k) for k in range(len(council)))


def first_lost(council):
    return next(k for k in range(len(council)) if not reckoning.firm_roads(council, k))


def changed_at(council, member, part):
    return council[:member] + (part,) + council[member + 1:]


def after(council, deed, told):
    """The COUNCIL behind a deed, or the error that refuses it, in the order of the document."""
    many = len(council)
    named = {"ask": told, "leave": told, "settle": told[:1], "open_up": (told[0],) + tuple(told[-1]) if deed == "open_up" else ()}
    for number in named[deed]:
        if not 0 <= number < many:
            return NoMember, number
    member = told[0]
    if deed in ("ask", "leave") and reckoning.is_firm(council, member):
        return NoAsker, member
    if deed == "settle":
        return changed_at(council, member, told[1])
    if deed == "open_up":
        if not told[1] or member in told[1]:
            return Unfit, None
        made = changed_at(council, member, tuple(told[1]))
    elif deed == "ask":
        if told[1] == member or told[1] in council[member]:
            return Unfit, None
        made = changed_at(council, member, tuple(sorted(council[member] + (told[1],))))
    else:
        rest = tuple(goal for goal in council[member] if goal != told[1])
        if rest == council[member] or not rest:
            return Unfit, None
        made = changed_at(council, member, rest)
    return made if is_sound(made) else (Lost, first_lost(made))


def held(council, kept):
    return tuple(word for word, total in sorted(kept.items()) if min(values(council, total)) >= 0)


class Plain:
    """A board that keeps all it ever was."""

    def __init__(self, council):
        self.rows = [(council, {})]

    @property
    def council(self):
        return self.rows[-1][0]

    @property
    def kept(self):
        return self.rows[-1][1]


class Looking(unittest.TestCase):

    def check_same(self, made, plain):
        """All that a Board tells, beside the plain one."""
        council, kept = plain.council, plain.kept
        self.assertEqual(made.members(), council)
        self.assertEqual(made.hopes(), tuple(sorted(kept.items())))
        self.assertEqual(len(made), len(plain.rows) - 1)
        now = held(council, kept)
        self.assertEqual(made.held(), now)
        for word in WORDS:
            if word not in kept:
                continue
            total = kept[word]
            told = values(council, total)
            self.assertIs(made.is_held(word), word in now)
            self.assertEqual(made.span(word), (min(told), max(told)))
            row = made.breaker(word)
            self.assertEqual(row is None, word in now)
            if row is not None:
                self.assertIn(row, reckoning.followings(council))
                self.assertLess(sum(n * council[end] for n, end in zip(total, reckoning.ends(row))), 0)
        changed = ()
        if len(plain.rows) > 1:
            was_council, was = plain.rows[-2]
            both = set(kept) & set(was)
            changed = tuple(sorted(both & (set(now) ^ set(held(was_council, was)))))
        self.assertEqual(made.changed(), changed)
        return changed

    def check_idle(self, made, plain):
        council, kept = plain.council, plain.kept
        right = []
        for arc in reckoning.arcs(council):
            rest = tuple(goal for goal in council[arc[0]] if goal != arc[1])
            narrow = changed_at(council, arc[0], rest)
            if rest and is_sound(narrow) and all(
                    (min(values(narrow, total)), max(values(narrow, total))) ==
                    (min(values(council, total)), max(values(council, total))) for total in kept.values()):
                right.append(arc)
        self.assertEqual(made.idle_arcs(), tuple(right))
        return len(right)

    def check_foretold(self, made, plain, deed, told):
        """What spoilt_by, mended_by, turned_by tell of a deed, or what they are refused with."""
        method = {"ask": made.spoilt_by, "leave": made.mended_by, "settle": made.turned_by}[deed]
        right = after(plain.council, deed, told)
        if isinstance(right[0], type):
            self.check_raises(method, told, *right)
            return 0
        now, then = set(held(plain.council, plain.kept)), set(held(right, plain.kept))
        words = {"ask": now - then, "leave": then - now, "settle": now ^ then}[deed]
        self.assertEqual(method(*told), tuple(sorted(words)))
        return len(words)

    def check_raises(self, method, told, error, number):
        with self.assertRaises(error) as caught:
            method(*told)
        self.assertIs(caught.exception.__class__, error)
        self.assertEqual(vars(caught.exception), {} if number is None else {"number": number})


class Deeds(Looking):

    def deeds(self, council, roll):
        """A deed and what it is told, fit or not."""
        many = len(council)
        member, other = next(roll) % (many + 2) - 1, next(roll) % (many + 2) - 1
        kind = next(roll) % 6
        if kind < 2:
            return ("ask", "leave")[kind], (member, other)
        if kind < 4 and many > 1:
            return "leave", self.fit_arc(council, roll, member, other)
        if kind == 4:
            return "settle", (member, next(roll) % 13 - 6)
        return "open_up", (member, tuple(sorted({next(roll) % (many + (next(roll) % 7 == 0)) for _ in range(next(roll) % 3)})))

    def fit_arc(self, council, roll, member, other):
        arcs = reckoning.arcs(council)
        return arcs[next(roll) % len(arcs)] if arcs else (member, other)

    def test_deeds(self):
        """Rows of sixty deeds, fit and unfit ones, each beside the plain board; then all taken back."""
        errors, changed, foretold, idle = set(), 0, 0, 0
        for seed, council in enumerate(SOME):
            roll = samples.rolls(seed)
            made, plain = Board(council), Plain(council)
            for step in range(60):
                errors.add(self.one_deed(made, plain, roll))
                if step % 3 == 0:
                    changed += len(self.check_same(made, plain))
                    idle += self.check_idle(made, plain)
                    for deed in ("ask", "leave", "settle"):
                        told = (next(roll) % (len(plain.council) + 1), next(roll) % (len(plain.council) + 1))
                        if deed == "leave":
                            told = self.fit_arc(plain.council, roll, *told)
                        foretold += self.check_foretold(made, plain, deed, told)
                    self.check_same(made, plain)
            while len(plain.rows) > 1:
                plain.rows.pop()
                self.assertIsNone(made.undo())
                self.check_same(made, plain)
            self.assertEqual(made, Board(council))
            self.check_raises(made.undo, (), NothingDone, None)
        self.assertEqual(errors, {None, NoMember, NoAsker, Unfit, Lost, NoWord, NothingDone})
        self.assertGreater(min(changed, foretold, idle), 20)

    def one_deed(self, made, plain, roll):
        """Does a deed on both boards; the error that it is refused with, or None."""
        council, kept, kind = plain.council, plain.kept, next(roll) % 10
        word = WORDS[next(roll) % len(WORDS)]
        if kind == 0 and len(council) < 7:
            number = next(roll) % 9 - 4
            self.assertIsNone(made.enter(number))
            plain.rows.append((council + (number,), {word: total + (0,) for word, total in kept.items()}))
            return None
        if kind in (1, 2) and (len(kept) < 4 or word in kept):
            many = len(council) - (next(roll) % 5 == 0)
            total = tuple(next(roll) % 5 - 2 for _ in range(many))
            if kind == 2 and many > 1:
                total = total[:-1] + (-sum(total[:-1]),)
            if many != len(council):
                self.check_raises(made.hope, (word, total), Unfit, None)
                return Unfit
            self.assertIsNone(made.hope(word, total))
            plain.rows.append((council, {**kept, word: total}))
            return None
        if kind == 3:
            return self.drop(made, plain, word)
        if kind == 4:
            return self.undo(made, plain)
        deed, told = self.deeds(council, roll)
        right = after(council, deed, told)
        if len(council) > 1 and isinstance(right[0], type):
            self.check_raises(getattr(made, deed), told, *right)
            self.assertEqual((made.members(), made.hopes(), len(made)),
                             (council, tuple(sorted(kept.items())), len(plain.rows) - 1))
            return right[0]
        if isinstance(right[0], type):
            return None
        self.assertIsNone(getattr(made, deed)(*told))
        plain.rows.append((right, kept))
        return None

    def drop(self, made, plain, word):
        if word not in plain.kept:
            with self.assertRaises(NoWord) as caught:
                made.drop(word)
            self.assertEqual(vars(caught.exception), {"word": word})
            return NoWord
        self.assertIsNone(made.drop(word))
        plain.rows.append((plain.council, {other: total for other, total in plain.kept.items() if other != word}))
        return None

    def undo(self, made, plain):
        if len(plain.rows) == 1:
            self.check_raises(made.undo, (), NothingDone, None)
            return NothingDone
        self.assertIsNone(made.undo())
        plain.rows.pop()
        return None

    def test_deeds_that_change_nothing_are_deeds(self):
        made = Board((0, 6, (0, 3), (1, 2)))
        made.hope("gap", (0, 0, -1, 1))
        made.settle(1, 6)
        made.open_up(2, (0, 3))
        made.hope("gap", (0, 0, -1, 1))
        self.assertEqual((len(made), made.members(), made.changed()), (4, (0, 6, (0, 3), (1, 2)), ()))
        for left in (3, 2, 1, 0):
            made.undo()
            self.assertEqual((len(made), made.members()), (left, (0, 6, (0, 3), (1, 2))))

    def test_a_hope_in_the_place_of_another_one(self):
        made = Board((0, 6, (0, 3), (1, 2)))
        made.hope("gap", (0, 0, -1, 1))
        made.hope("gap", (0, 0, 1, -1))
        self.assertEqual((made.changed(), made.hopes(), made.held()), (("gap",), (("gap", (0, 0, 1, -1)),), ()))
        made.drop("gap")
        self.assertEqual((made.changed(), made.hopes()), ((), ()))
        made.hope("gap", (0, 0, 0, 1))
        self.assertEqual(made.changed(), ())
        made.undo()
        made.undo()
        self.assertEqual(made.changed(), ("gap",))

    def test_an_arc_more_and_less(self):
        """The guarantee: an arc more never makes a hope hold, an arc less never breaks one."""
        for seed, council in enumerate(SOME):
            made = Board(council)
            for k in range(4):
                made.hope(WORDS[k], samples.total_for(council, seed + k))
            now = set(made.held())
            for asker in reckoning.askers(council):
                for goal in range(len(council)):
                    twin = made.twin()
                    if goal != asker and goal not in council[asker]:
                        twin.ask(asker, goal)
                        self.assertTrue(set(twin.held()) <= now)
                    elif goal != asker and not isinstance(after(council, "leave", (asker, goal))[0], type):
                        twin.leave(asker, goal)
                        self.assertTrue(set(twin.held()) >= now)

    def test_near_the_bounds(self):
        made = Board(MANY)
        total = samples.total_for(MANY, 4)
        made.hope("a", total)
        made.hope("b", tuple(-n for n in total))
        told = values(MANY, total)
        self.assertEqual(made.span("a"), (min(told), max(told)))
        self.assertEqual(made.span("b"), (-max(told), -min(told)))
        for number in range(57):
            made.settle(number % 6, number)
        made.leave(6, 7)
        self.assertEqual(len(made), 60)
        for _ in range(60):
            made.undo()
        self.assertEqual(made, Board(MANY))


class Refusals(Looking):

    def board(self):
        made = Board((0, 6, (0, 3), (1, 2), (5,), (4, 0)))
        made.hope("gap", (0, 0, -1, 1, 0, 0))
        made.settle(1, 7)
        return made

    def test_first_come(self):
        rows = (("ask", (6, -1), NoMember, 6), ("ask", (-1, 6), NoMember, -1), ("ask", (0, 6), NoMember, 6),
                ("ask", (0, 0), NoAsker, 0), ("ask", (1, 9), NoMember, 9), ("ask", (2, 2), Unfit, None),
                ("ask", (2, 3), Unfit, None), ("leave", (6, -1), NoMember, 6), ("leave", (0, -1), NoMember, -1),
                ("leave", (0, 1), NoAsker, 0), ("leave", (2, 1), Unfit, None), ("leave", (4, 5), Unfit, None),
                ("leave", (2, 2), Unfit, None), ("leave", (5, 0), Lost, 4), ("settle", (6, 3), NoMember, 6),
                ("settle", (-1, 3), NoMember, -1), ("open_up", (6, (-1,)), NoMember, 6), ("open_up", (2, (-1, 9)), NoMember, -1),
                ("open_up", (2, (2, 9)), NoMember, 9), ("open_up", (2, ()), Unfit, None), ("open_up", (2, (2, 3)), Unfit, None),
                ("open_up", (0, (0,)), Unfit, None), ("open_up", (5, (4,)), Lost, 4), ("open_up", (-1, ()), NoMember, -1),
                ("hope", ("gap", (1, 2)), Unfit, None), ("hope", ("new", ()), Unfit, None),
                ("hope", ("new", (1,) * 7), Unfit, None), ("spoilt_by", (6, -1), NoMember, 6), ("spoilt_by", (0, 0), NoAsker, 0),
                ("spoilt_by", (2, 3), Unfit, None), ("mended_by", (0, -1), NoMember, -1), ("mended_by", (0, 1), NoAsker, 0),
                ("mended_by", (4, 5), Unfit, None), ("mended_by", (5, 0), Lost, 4), ("turned_by", (6, 0), NoMember, 6),
                ("turned_by", (-1, 0), NoMember, -1))
        for name, told, error, number in rows:
            made, other = self.board(), self.board()
            with self.subTest(name, told=told):
                self.check_raises(getattr(made, name), told, error, number)
                self.assertEqual((made, len(made), made.changed()), (other, len(other), other.changed()))

    def test_both_firm_ones_become_askers(self):
        """Behind open_up nobody firm is left."""
        made = Board((5, (0,)))
        self.check_raises(made.open_up, (0, (1,)), Lost, 0)
        self.assertEqual(made.members(), (5, (0,)))

    def test_no_word(self):
        made = self.board()
        for name in ("drop", "is_held", "breaker", "span"):
            for word in ("new", "", "gap ", "Gap"):
                with self.assertRaises(NoWord) as caught:
                    getattr(made, name)(word)
                self.assertEqual(vars(caught.exception), {"word": word})
        self.assertEqual(made, self.board())

    def test_lost(self):
        for council, number in (((5, (2,), (1,)), 1), (((1,), (0,)), 0), ([[1], [0], 5, [2]], 0)):
            self.check_raises(Board, (council,), Lost, number)


class Objects(Looking):

    def test_interface(self):
        for name, told in METHODS.items():
            self.assertIn(name, vars(Board))
            names = list(inspect.signature(vars(Board)[name]).parameters)
            self.assertEqual(names, ["self"] + list(told), name)
        self.assertEqual(Board.__module__, board_file.__name__)
        self.assertEqual(Board.__bases__, (object,))

    def test_by_names(self):
        made = Board(council=(0, 6, (0, 3), (1, 2)))
        made.ask(asker=2, goal=1)
        made.leave(goal=0, asker=2)
        made.settle(number=4, member=0)
        made.open_up(some=(1,), member=2)
        made.enter(number=3)
        made.hope(total=(0, 1, 0, 0, 0), word="x")
        self.assertEqual((made.is_held(word="x"), made.breaker(word="x"), made.span(word="x")), (True, None, (6, 6)))
        self.assertEqual(made.spoilt_by(asker=2, goal=0), ())
        self.assertEqual(made.mended_by(asker=3, goal=1), ())
        self.assertEqual(made.turned_by(member=1, number=-1), ("x",))
        made.drop(word="x")
        self.assertEqual(made.members(), (4, 6, (1,), (1, 2), 3))

    def test_lists_for_tuples_and_copies(self):
        council, total, some = [0, 6, [0, 3], [1, 2]], [0, 0, -1, 1], [0, 1]
        made = Board(council)
        made.hope("gap", total)
        made.open_up(2, some)
        kept = copy.deepcopy((council, total, some))
        council[2].append(1)
        council[0] = 9
        total[0] = 77
        some.append(3)
        self.assertEqual((made.members(), made.hopes()), ((0, 6, (0, 1), (1, 2)), (("gap", (0, 0, -1, 1)),)))
        self.assertNotEqual((council, total, some), kept)
        self.assertEqual(made, self.same_by_tuples())
        self.assertEqual(made.span("gap"), self.same_by_tuples().span("gap"))

    def same_by_tuples(self):
        made = Board((0, 6, (0, 3), (1, 2)))
        made.hope("gap", (0, 0, -1, 1))
        made.open_up(2, (0, 1))
        return made

    def test_arguments_unchanged(self):
        council, total, some = [0, 6, [0, 3], [1, 2]], [0, 0, -1, 1], [0, 1, 9]
        kept = copy.deepcopy((council, total, some))
        made = Board(council)
        made.hope("gap", total)
        with self.assertRaises(NoMember):
            made.open_up(2, some)
        with self.assertRaises(Unfit):
            made.hope("gap", some)
        self.assertEqual((council, total, some), kept)

    def test_iteration(self):
        made = Board((5, (0,)))
        with self.assertRaises(TypeError):
            iter(made)
        with self.assertRaises(TypeError):
            list(made)
        with self.assertRaises(TypeError):
            for _ in made:
                pass
        for part in (5, 0, (0,), "x", made):
            with self.assertRaises(TypeError):
                part in made

    def test_equal(self):
        made, other = Board((5, (0,))), Board([5, [0]])
        self.assertTrue(made == other)
        self.assertFalse(made != other)
        self.assertFalse(made == Board((5, (0,), 6)))
        self.assertTrue(made != Board((4, (0,))))
        for thing in (None, 0, True, "x", (5, (0,)), ((5, (0,)), ()), [], {}, object(), 1.5, Board):
            self.assertIs(made == thing, False)
            self.assertIs(made != thing, True)
            self.assertIs(thing == made, False)
        made.hope("x", (1, 0))
        self.assertTrue(made != other)
        other.hope("y", (1, 0))
        self.assertFalse(made == other)
        other.hope("x", (1, 0))
        other.drop("y")
        self.assertTrue(made == other)
        self.assertNotEqual(len(made), len(other))
        other.hope("x", (1, 1))
        self.assertTrue(made != other)
        other.settle(0, 6)
        other.settle(0, 5)
        other.hope("x", [1, 0])
        self.assertTrue(made == other and not made != other)

    def test_order_of_hopes_does_not_matter(self):
        one, other = Board((5,)), Board((5,))
        one.hope("a", (1,))
        one.hope("b", (2,))
        other.hope("b", (2,))
        other.hope("a", (1,))
        self.assertEqual(one, other)
        self.assertEqual(one.hopes(), (("a", (1,)), ("b", (2,))))

    def test_twins(self):
        made = Board((0, 6, (0, 3), (1, 2)))
        made.hope("gap", (0, 0, -1, 1))
        made.ask(2, 1)
        twin = made.twin()
        self.assertIsNot(twin, made)
        self.assertIs(twin.__class__, Board)
        self.assertEqual((twin, len(twin), twin.changed()), (made, 2, made.changed()))
        twin.leave(2, 0)
        twin.drop("gap")
        self.assertEqual((made.members(), made.hopes(), len(made)), ((0, 6, (0, 1, 3), (1, 2)), (("gap", (0, 0, -1, 1)),), 2))
        made.undo()
        made.undo()
        self.assertEqual((len(made), len(twin)), (0, 4))
        for _ in range(4):
            twin.undo()
        self.assertEqual(twin, made)
        self.check_raises(twin.undo, (), NothingDone, None)
        other = made.twin()
        made.enter(3)
        self.assertEqual(len(other), 0)

    def test_changed_behind_each_kind(self):
        made = Board((0, 6, (0, 3), (1, 2)))
        made.hope("gap", (0, 0, -1, 1))
        self.assertEqual(made.changed(), ())
        made.settle(0, 9)
        self.assertEqual((made.held(), made.changed()), ((), ("gap",)))
        made.enter(3)
        self.assertEqual(made.changed(), ())
        made.settle(0, 0)
        self.assertEqual(made.changed(), ("gap",))
        made.ask(3, 4)
        made.settle(4, -1)
        self.assertEqual(made.changed(), ("gap",))
        made.leave(3, 4)
        self.assertEqual(made.changed(), ("gap",))
        made.open_up(3, (4,))
        self.assertEqual(made.changed(), ("gap",))
        made.hope("gap", (0, 0, 0, 0, 0))
        self.assertEqual(made.changed(), ("gap",))
        made.hope("new", (0, 0, 0, 0, -1))
        self.assertEqual(made.changed(), ())
        made.undo()
        self.assertEqual(made.changed(), ("gap",))

    def test_the_same_again(self):
        made = Board((0, 6, (0, 3), (1, 2)))
        made.hope("top", (0, 1, 0, -2))
        for name in ("members", "hopes", "held", "changed", "idle_arcs"):
            self.assertEqual(repr(getattr(made, name)()), repr(getattr(made, name)()))
            self.assertIs(type(getattr(made, name)()), tuple)
        self.assertEqual(made.breaker("top"), made.breaker("top"))
        self.assertEqual(made.breaker("top"), made.twin().breaker("top"))
        self.assertIs(type(made.span("top")), tuple)

    def test_as_the_functions_of_councils(self):
        for council in SOME:
            made = Board(council)
            made.enter(-3)
            self.assertEqual(made.members(), councils.with_firm(council, -3))
            made.open_up(0, (len(council),))
            self.assertEqual(made.members(), councils.made_asker(council + (-3,), 0, (len(council),)))


if __name__ == "__main__":
    unittest.main()
