"""How the tests look at refusals, and a COUNCIL that is not sound."""

import unittest

from tests import calls
from whomheeds.errors import NoWord

# 0 and 4 are firm; 1 and 2, 5 and 6 ask one another alone; 3 reaches a firm one.
SAD = (4, (2,), (1,), (0, 1), 9, (6,), (5,))
SADW = ((), (1,), (1,), (1, 1), (), (1,), (1,))
SADV = ((4, 1), (1, 1), (1, 1), (4, 1), (9, 1), (1, 1), (1, 1))
SADT = (0, 1, 0, -1, 0, 2, 0)
ANY = (0, 2, 1, 0, 4, 6, 5)


def lists_throughout(value):
    """The value with lists in the place of tuples, at any depth."""
    return [lists_throughout(part) for part in value] if isinstance(value, (list, tuple)) else value


class Case(unittest.TestCase):

    def check(self, function, arguments, error, told):
        """The call raises just this error, with this in its only attribute (None: it has none); with lists, too."""
        names = calls.parameters()[function]
        lists = [part if name == "thing" else lists_throughout(part) for name, part in zip(names, arguments)]
        for given in (arguments, lists):
            with self.subTest(function.__name__, arguments=given):
                with self.assertRaises(error) as caught:
                    function(*given)
                self.assertIs(caught.exception.__class__, error)
                name = "word" if error is NoWord else "number"
                self.assertEqual(vars(caught.exception), {} if told is None else {name: told})

    def check_all_are_there(self, functions, modules):
        """Each function of these modules, but those that never raise this, is among the functions."""
        for function in calls.parameters():
            if function.__module__ in [module.__name__ for module in modules]:
                self.assertIn(function, functions, function.__name__)
