"""[11] is_calm and is_calmer."""

import unittest

from poolshares.errors import NoShare
from poolshares.shares import Share, is_calm, is_calmer
from values import all_calmer, not_shares, shares_to

# one, other, whether other is at least as calm, whether it is calmer
CASES = [
    ((0, 2, 1), (1, 1, 1), True, True),
    ((1, 1, 1), (0, 2, 1), False, False),
    ((0, 2, 1), (0, 2, 1), True, False),
    ((0, 2, 1), (2, 1, 0), True, False),
    ((0, 2), (1, 1), True, True),
    ((0, 30), (15, 15), True, True),
    ((0, 30), (30, 0), True, False),
    ((0, 2), (1, 2), False, False),
    ((1, 2), (0, 2), False, False),
    ((0, 0), (30, 30), False, False),
    ((0, 4, 5), (1, 2, 6), False, False),
    ((1, 2, 6), (0, 4, 5), False, False),
    ((0, 3, 3, 6), (1, 2, 4, 5), True, True),
    ((0, 0, 0, 0, 0, 30), (5, 5, 5, 5, 5, 5), True, True),
    ((9, 0, 0, 9, 3), (3, 9, 9, 0, 0), True, False),
    ((0, 1), (1, 0), True, False),
    ((0, 0, 5), (0, 1, 5), False, False),
    ((0, 0, 6), (1, 1, 5), False, False),
]


class TestCalm(unittest.TestCase):
    def test_cases(self):
        for one, other, calm, calmer in CASES:
            with self.subTest((one, other)):
                self.assertIs(is_calm(Share(one), Share(other)), calm)
                self.assertIs(is_calmer(Share(one), Share(other)), calmer)

    def test_against_reachability_by_single_units(self):
        for most, states in ((5, 2), (4, 3), (2, 4)):
            shares = shares_to(most, states)
            for one in shares:
                calmer = all_calmer(one.amounts)
                for other in shares:
                    amounts = tuple(sorted(other.amounts))
                    self.assertIs(is_calm(one, other), amounts in calmer)
                    self.assertIs(is_calmer(one, other), amounts in calmer and amounts != tuple(sorted(one.amounts)))

    def test_by_name(self):
        one, other = Share((0, 2)), Share((1, 1))
        self.assertIs(is_calm(other=other, one=one), True)
        self.assertIs(is_calmer(other=other, one=one), True)

    def test_arguments_stay_as_they_are(self):
        one, other = Share((0, 2, 1)), Share((1, 1, 1))
        self.assertEqual([is_calm(one, other), is_calm(one, other)], [True, True])
        self.assertEqual((one.amounts, other.amounts), ((0, 2, 1), (1, 1, 1)))

    def test_another_number_of_states(self):
        for function in (is_calm, is_calmer):
            for one, other in (((0, 0), (0, 0, 0)), ((0, 2, 1), (1, 2)), ((1,) * 6, (1,) * 5)):
                with self.subTest((function, one, other)), self.assertRaises(NoShare):
                    function(Share(one), Share(other))

    def test_what_is_not_a_share(self):
        share = Share((0, 1))
        for function in (is_calm, is_calmer):
            for wrong in not_shares():
                for one, other in ((share, wrong), (wrong, share), (wrong, wrong)):
                    with self.subTest((function, repr(wrong)[:60])), self.assertRaises(NoShare):
                        function(one, other)


if __name__ == "__main__":
    unittest.main()
