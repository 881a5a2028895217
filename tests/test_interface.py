"""Promises 2 and 23: names, arguments and files, lists for tuples, nothing changed, lists new each time."""

import ast
import copy
import inspect
import pathlib
import unittest

from tests import calls
from tests.refusing import lists_throughout
from whomheeds import between, councils, follows, lots, orders, sums, unknown


def lists_outside(value):
    """A list of the same parts."""
    return list(value) if isinstance(value, tuple) else value


def lists_inside(value, depth=0):
    """A tuple, with lists in it."""
    if isinstance(value, (list, tuple)):
        parts = [lists_inside(part, depth + 1) for part in value]
        return tuple(parts) if depth == 0 else parts
    return value


def lists_by_turns(value, depth=0):
    """A list of tuples of lists."""
    if isinstance(value, (list, tuple)):
        parts = [lists_by_turns(part, depth + 1) for part in value]
        return tuple(parts) if depth in (1, 3) else parts
    return value


WAYS = (lists_throughout, lists_outside, lists_inside, lists_by_turns)


def parts_of(value):
    yield value
    if isinstance(value, (list, tuple)):
        for part in value:
            yield from parts_of(part)


class Interface(unittest.TestCase):

    def test_names_arguments_files(self):
        for function, names in calls.parameters().items():
            with self.subTest(function.__name__):
                self.assertTrue(inspect.isfunction(function))
                told = inspect.signature(function).parameters.values()
                self.assertEqual(tuple(part.name for part in told), names)
                self.assertTrue(all(part.kind == part.POSITIONAL_OR_KEYWORD for part in told))
                self.assertTrue(all(part.default is part.empty for part in told))

    def test_defined_where_listed(self):
        for module, text in calls.SIGNATURES.items():
            tree = ast.parse(pathlib.Path(module.__file__).read_text())
            defined = [node.name for node in tree.body if isinstance(node, ast.FunctionDef)]
            for word in text.split():
                self.assertEqual(defined.count(word.split("(")[0]), 1, word)

    def test_each_function_has_calls(self):
        called = [function for function, _ in calls.all_calls()]
        for function in calls.parameters():
            self.assertIn(function, called)


class Arguments(unittest.TestCase):

    def test_lists_for_tuples(self):
        for function, arguments in calls.all_calls():
            names = calls.parameters()[function]
            expected = calls.outcome(function, arguments)
            for way in WAYS:
                told = tuple(part if name == "thing" else way(part) for name, part in zip(names, arguments))
                with self.subTest(function.__name__, told=told):
                    self.assertEqual(calls.outcome(function, told), expected)

    def test_names(self):
        for function, arguments in calls.all_calls():
            with self.subTest(function.__name__, arguments=arguments):
                names = calls.parameters()[function]
                self.assertEqual(calls.outcome(function, arguments, names), calls.outcome(function, arguments))
                back = dict(reversed(list(zip(names, arguments))))
                self.assertEqual(calls.outcome(function, back.values(), back), calls.outcome(function, arguments))

    def test_arguments_unchanged(self):
        for function, arguments in calls.all_calls():
            told = lists_throughout(arguments)
            kept = copy.deepcopy(told)
            calls.outcome(function, told)
            self.assertEqual(told, kept, function.__name__)

    def test_same_again(self):
        for function, arguments in calls.all_calls():
            self.assertEqual(calls.outcome(function, arguments), calls.outcome(function, arguments))

    def test_results_hold_tuples(self):
        """Lists are returned by some functions alone, and lie in nothing else."""
        for function, arguments in calls.all_calls():
            told = lists_throughout(arguments)
            if calls.outcome(function, told).startswith("raises"):
                continue
            result = function(*told)
            is_list = function in calls.LISTING
            self.assertEqual(isinstance(result, list), is_list, function.__name__)
            inside = [part for whole in result for part in parts_of(whole)] if is_list else parts_of(result)
            self.assertFalse(any(isinstance(part, (list, dict, set)) for part in inside), function.__name__)

    def test_lists_are_new(self):
        more = [(councils.roads, (calls.C, 2, 2)), (follows.all_followings, ((5,),)), (sums.surely_below, ((5,),)),
                (unknown.upward_sets, ((5,), ())), (orders.all_orders, ((5, 6),)), (lots.all_lots, ((5,), ())),
                (between.steps_between, ((5,), ((),), ((),)))]
        some = [(function, arguments) for function, arguments in calls.all_calls() if function in calls.LISTING]
        self.assertEqual({function for function, _ in some}, set(calls.LISTING))
        for function, arguments in some + more:
            if calls.outcome(function, arguments).startswith("raises"):
                continue
            first = function(*arguments)
            kept = list(first)
            first.append("more")
            second = function(*arguments)
            self.assertEqual(second, kept)
            second.clear()
            self.assertEqual(function(*arguments), kept)

    def test_lists_that_are_handed_in_come_out_as_tuples(self):
        """What is returned shares nothing with a list that came in."""
        council, rows, later = [0, 6, [0, 1]], [[], [], [1, 2]], [[], [], [3, 4]]
        self.assertEqual(between.steps_between(council, rows, later), [((), (), (1, 2)), ((), (), (3, 4))])
        self.assertEqual(between.between_weights(council, rows, later, [0, 0, 1], [4, 1]), ((), (), (1, 2)))
        self.assertEqual(between.set_row(council, rows, 2, [7, 8]), ((), (), (7, 8)))

    def test_returned_values_come_in_again(self):
        council = councils.with_asker([5, [0]], [1])
        self.assertEqual(councils.with_arc(council, 2, 0), (5, (0,), (0, 1)))
        self.assertEqual(follows.ends_of(council, follows.all_followings(council)[0]), (0, 0, 0))


if __name__ == "__main__":
    unittest.main()
