"""[1] The session word for word, the interface, and the examples of the README."""

import doctest
import inspect
import os
import unittest

from poolshares import divisions, errors, orders, paths, pools, rings, settling, shares
from poolshares.divisions import Division
from poolshares.pools import Fine, Kept, KeptFine, Pool
from poolshares.shares import Share

TOP = os.path.dirname(os.path.dirname(os.path.abspath(__file__)))
SESSION = r"""
>>> from poolshares.shares import Share, is_calmer
>>> from poolshares.divisions import Division
>>> from poolshares.rings import ring, levels, exchanged
>>> division = Division(Share((0, 2, 1)), Share((0, 0, 1)), Share((1, 1, 0)))
>>> division.totals
(1, 3, 2)
>>> ring(division)
((0, 1, 2), (0, 1, 2))
>>> better = exchanged(division, ring(division))
>>> better.text()
'1 1 1\n0 1 0\n0 1 1\n'
>>> ring(better)
>>> levels(better)
(0, 0, 0)
>>> is_calmer(Share((0, 2, 1)), Share((1, 1, 1)))
True
"""


class TestSession(unittest.TestCase):
    def test_the_session(self):
        self.check_examples(SESSION, 11)

    def test_the_examples_of_the_readme(self):
        with open(os.path.join(TOP, "README.md"), encoding="utf-8") as file:
            self.check_examples(file.read().replace("```", ""), 40)

    def check_examples(self, text, least):
        runner = doctest.DocTestRunner()
        runner.run(doctest.DocTestParser().get_doctest(text, {}, "examples", "examples", 0))
        self.assertEqual(runner.failures, 0)
        self.assertGreaterEqual(runner.tries, least)


class TestInterface(unittest.TestCase):
    def test_arguments(self):
        for function, arguments in (
            (shares.is_calm, "one other"), (shares.is_calmer, "one other"), (paths.path, "one other"),
            (paths.shows_path, "one other thing"), (shares.Share, "amounts"), (divisions.Division, "shares"),
            (divisions.Division.read, "text"), (divisions.Division.doubled, "self"), (divisions.Division.text, "self"),
            (rings.ring, "division"), (rings.shows_ring, "division thing"), (rings.exchanged, "division ring"),
            (rings.levels, "division"), (rings.shows_levels, "division thing"), (rings.verdict, "division"),
            (rings.shows_verdict, "division thing"), (settling.settle, "division"), (settling.settled, "division"),
            (orders.order, "division"), (orders.is_orderly, "division"), (Pool, "division"), (Fine, "division"),
            (Kept, "division person"), (KeptFine, "division person"), (Pool.assign_division, "self division"),
            (Pool.best, "self"), (Pool.exchange, "self ring"), (Pool.__call__, "self ring"), (Pool.improve, "self"),
            (Pool.undo, "self"), (Pool.trying, "self"),
        ):
            with self.subTest(function):
                self.assertEqual(" ".join(inspect.signature(function).parameters), arguments)

    def test_each_name_is_defined_in_its_file(self):
        for module, names in (
            (shares, "Share is_calm is_calmer"), (paths, "path shows_path"), (divisions, "Division"), (errors, "PoolError"),
            (rings, "ring shows_ring exchanged levels shows_levels verdict shows_verdict"), (settling, "settle settled"),
            (orders, "order is_orderly"), (pools, "Pool Kept Fine KeptFine"),
        ):
            for name in names.split():
                self.assertEqual(getattr(module, name).__module__, module.__name__)

    def test_each_method_is_defined_in_its_class(self):
        for kind, names in (
            (Share, "amounts total __call__ __len__ __getitem__ __add__ __eq__ __repr__"),
            (Division, "shares people states totals MOST __getitem__ doubled text read __eq__ __repr__"),
            (Pool, "__init__ division assign_division best exchange __call__ improve undo changes trying __len__ __repr__"),
            (Kept, "__init__ assign_division best exchange"), (Fine, "__init__ unit improve"), (KeptFine, "__init__"),
        ):
            for name in names.split():
                self.assertIn(name, vars(kind))

    def test_properties(self):
        for kind, names in (
            (Share, "amounts total"), (Division, "shares people states totals"), (Pool, "division changes"), (Fine, "unit"),
        ):
            for name in names.split():
                self.assertIsInstance(vars(kind)[name], property)
        self.assertIsInstance(vars(Division)["read"], classmethod)

    def test_default_values(self):
        for kind in (Kept, KeptFine):
            self.assertEqual(inspect.signature(kind).parameters["person"].default, 0)


if __name__ == "__main__":
    unittest.main()
