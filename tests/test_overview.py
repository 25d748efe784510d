"""[1] The session so far as it shows shares and divisions, the interface, and the examples of the README."""

import doctest
import inspect
import os
import unittest

from poolshares import divisions, errors, paths, shares
from poolshares.divisions import Division
from poolshares.shares import Share, is_calmer

TOP = os.path.dirname(os.path.dirname(os.path.abspath(__file__)))


class TestSession(unittest.TestCase):
    def test_the_session(self):
        division = Division(Share((0, 2, 1)), Share((0, 0, 1)), Share((1, 1, 0)))
        self.assertEqual(division.totals, (1, 3, 2))
        better = Division(Share((1, 1, 1)), Share((0, 1, 0)), Share((0, 1, 1)))
        self.assertEqual(better.text(), "1 1 1\n0 1 0\n0 1 1\n")
        self.assertEqual(better.totals, division.totals)
        self.assertIs(is_calmer(Share((0, 2, 1)), Share((1, 1, 1))), True)

    def test_the_examples_of_the_readme(self):
        with open(os.path.join(TOP, "README.md"), encoding="utf-8") as file:
            examples = file.read().replace("```", "")
        runner = doctest.DocTestRunner()
        runner.run(doctest.DocTestParser().get_doctest(examples, {}, "README.md", "README.md", 0))
        self.assertEqual(runner.failures, 0)
        self.assertGreater(runner.tries, 10)


class TestInterface(unittest.TestCase):
    def test_arguments(self):
        for function, arguments in (
            (shares.is_calm, "one other"), (shares.is_calmer, "one other"), (paths.path, "one other"),
            (paths.shows_path, "one other thing"), (shares.Share, "amounts"), (divisions.Division, "shares"),
            (divisions.Division.read, "text"), (divisions.Division.doubled, "self"), (divisions.Division.text, "self"),
        ):
            with self.subTest(function):
                self.assertEqual(" ".join(inspect.signature(function).parameters), arguments)

    def test_each_name_is_defined_in_its_file(self):
        for module, names in (
            (shares, "Share is_calm is_calmer"), (paths, "path shows_path"), (divisions, "Division"), (errors, "PoolError"),
        ):
            for name in names.split():
                self.assertEqual(getattr(module, name).__module__, module.__name__)

    def test_each_method_is_defined_in_its_class(self):
        for kind, names in (
            (Share, "amounts total __call__ __len__ __getitem__ __add__ __eq__ __repr__"),
            (Division, "shares people states totals MOST __getitem__ doubled text read __eq__ __repr__"),
        ):
            for name in names.split():
                self.assertIn(name, vars(kind))

    def test_properties(self):
        for kind, names in ((Share, "amounts total"), (Division, "shares people states totals")):
            for name in names.split():
                self.assertIsInstance(vars(kind)[name], property)
        self.assertIsInstance(vars(Division)["read"], classmethod)


if __name__ == "__main__":
    unittest.main()
