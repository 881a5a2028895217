"""Promises 2 and 23: the errors, their one built-in class and their attributes."""

import ast
import pathlib
import unittest

from whomheeds import errors

TABLE = (("NoAsker", LookupError, "number"), ("NoFirm", LookupError, "number"), ("NoMember", LookupError, "number"),
         ("NoNumber", LookupError, "number"), ("NoWord", LookupError, "word"), ("NothingDone", LookupError, None),
         ("BadLine", ValueError, "number"), ("BadText", ValueError, None), ("Lost", ValueError, "number"),
         ("Unfit", ValueError, None))


def made(name, attribute):
    """The error by position, by name; and what it is made with."""
    wanted = getattr(errors, name)
    if attribute is None:
        return [(wanted(), None)]
    worth = "sideways" if attribute == "word" else -3
    return [(wanted(worth), worth), (wanted(**{attribute: worth}), worth)]


class Errors(unittest.TestCase):

    def test_keep_what_they_are_made_with(self):
        for name, _, attribute in TABLE:
            for error, worth in made(name, attribute):
                self.assertEqual(vars(error), {} if attribute is None else {attribute: worth}, name)

    def test_bases(self):
        for name, builtin, _ in TABLE:
            self.assertEqual(getattr(errors, name).__bases__, (builtin,), name)

    def test_caught_by_the_builtin_class_and_no_other(self):
        for name, builtin, attribute in TABLE:
            for error, _ in made(name, attribute):
                with self.assertRaises(builtin):
                    raise error
                caught = [other for other, _, _ in TABLE if isinstance(error, getattr(errors, other))]
                self.assertEqual(caught, [name])
                self.assertNotIsInstance(error, (KeyError, IndexError, UnicodeError))
                self.assertFalse(isinstance(error, LookupError) and isinstance(error, ValueError))

    def test_defined_there(self):
        tree = ast.parse(pathlib.Path(errors.__file__).read_text())
        self.assertEqual(sorted(node.name for node in tree.body if isinstance(node, ast.ClassDef)),
                         sorted(name for name, _, _ in TABLE))

    def test_arguments_are_wanted(self):
        for name, _, attribute in TABLE:
            if attribute is not None:
                with self.assertRaises(TypeError):
                    getattr(errors, name)()


if __name__ == "__main__":
    unittest.main()
