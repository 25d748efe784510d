"""poolshares.errors: all exceptions are there, as the interface lists them."""

import unittest

from poolshares import errors

NAMES = (
    "NoAmounts NoState NoNumber NoShare NoPeople NoPerson NoText NoDivision NoRing NothingBetter NothingDone"
).split()


class TestErrors(unittest.TestCase):
    def test_pool_error_is_a_direct_value_error(self):
        self.assertEqual(errors.PoolError.__bases__, (ValueError,))

    def test_each_exception_is_a_direct_subclass(self):
        self.assertEqual(len(NAMES), 11)
        for name in NAMES:
            with self.subTest(name):
                self.assertEqual(getattr(errors, name).__bases__, (errors.PoolError,))

    def test_exceptions_are_different_and_there_are_no_others(self):
        self.assertEqual(sorted(sub.__name__ for sub in errors.PoolError.__subclasses__()), sorted(NAMES))

    def test_they_are_defined_in_this_module(self):
        for name in NAMES + ["PoolError"]:
            self.assertEqual(getattr(errors, name).__module__, "poolshares.errors")

    def test_they_carry_a_message(self):
        for name in NAMES + ["PoolError"]:
            with self.assertRaises(ValueError) as caught:
                raise getattr(errors, name)("why")
            self.assertEqual(str(caught.exception), "why")


if __name__ == "__main__":
    unittest.main()
