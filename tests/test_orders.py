"""[40] order and is_orderly."""

import unittest
from itertools import permutations, product

from poolshares.errors import NoDivision
from poolshares.orders import is_orderly, order
from poolshares.rings import ring
from searches import drawn_divisions, is_order, made, plain_opposites
from values import not_divisions

ORDERS = [
    (((0, 2, 1), (0, 0, 1), (1, 1, 0)), ("opposite", (0, 1, 2, 1))),
    (((0, 1), (0, 1)), ("order", (0, 1))),
    (((1, 0), (1, 0)), ("order", (1, 0))),
    (((1, 0), (0, 0)), ("order", (1, 0))),
    (((0, 1), (1, 0)), ("opposite", (0, 1, 0, 1))),
    (((1, 0), (0, 1)), ("opposite", (0, 1, 1, 0))),
    (((0, 0), (0, 0)), ("order", (0, 1))),
    (((30, 30, 30, 30, 30, 30),) * 4, ("order", (0, 1, 2, 3, 4, 5))),
    (((0, 6, 12, 18, 24, 30),) * 4, ("order", (0, 1, 2, 3, 4, 5))),
    (((5, 0, 5, 0, 9), (1, 1, 1, 1, 1)), ("order", (1, 3, 0, 2, 4))),
    # Equal totals with different amounts.
    (((2, 1, 0), (0, 1, 2)), ("opposite", (0, 1, 1, 0))),
    (((15, 16, 30), (0, 0, 30), (16, 15, 30)), ("opposite", (0, 2, 0, 1))),
    # The first person has nobody against them.
    (((1, 1, 1), (0, 0, 1), (0, 1, 0)), ("opposite", (1, 2, 1, 2))),
    (((0, 0, 0), (0, 0, 9), (0, 0, 9), (0, 9, 0)), ("opposite", (1, 3, 1, 2))),
    # The first other person comes before the first states.
    (((0, 1, 2), (9, 9, 8), (1, 0, 0)), ("opposite", (0, 1, 0, 2))),
]


class TestOrder(unittest.TestCase):
    def test_cases(self):
        for rows, expected in ORDERS:
            with self.subTest(rows):
                self.assertEqual(order(made(*rows)), expected)
                self.assertIs(is_orderly(made(*rows)), expected[0] == "order")

    def test_kinds(self):
        for rows, _ in ORDERS:
            word, found = order(made(*rows))
            self.assertEqual((type(order(made(*rows))), type(word), type(found)), (tuple, str, tuple))
            self.assertEqual({type(number) for number in found}, {int})

    def test_against_a_search_over_all_opposites(self):
        for division in drawn_divisions(70, 5):
            self.check(division)

    def test_all_small_divisions(self):
        for rows in product(product(range(3), repeat=3), repeat=2):
            self.check(made(*rows))
        for rows in product(product(range(2), repeat=3), repeat=3):
            self.check(made(*rows))

    def check(self, division):
        opposites = plain_opposites(division)
        if opposites:
            self.assertEqual(order(division), ("opposite", min(opposites)))
        else:
            by_totals = sorted(range(division.states), key=lambda state: (division.totals[state], state))
            self.assertTrue(is_order(division, by_totals))
            self.assertEqual(order(division), ("order", tuple(by_totals)))
        self.assertIs(is_orderly(division), not opposites)

    def test_orderly_means_that_some_order_has_no_falling_amount(self):
        for division in drawn_divisions(71, 1):
            if division.states <= 5:
                orders = [states for states in permutations(range(division.states)) if is_order(division, states)]
                self.assertIs(is_orderly(division), bool(orders))

    def test_what_follows_for_improvements(self):
        for division in drawn_divisions(72, 3):
            if is_orderly(division):
                self.assertIsNone(ring(division))
            elif max(max(share.amounts) for share in division.shares) <= 15:
                self.assertIsNotNone(ring(division.doubled()))

    def test_no_division(self):
        for thing in not_divisions():
            with self.subTest(repr(thing)):
                self.assertRaises(NoDivision, order, thing)
                self.assertRaises(NoDivision, is_orderly, thing)

    def test_arguments_by_name(self):
        self.assertEqual(order(division=made((0, 1), (0, 1))), ("order", (0, 1)))
        self.assertIs(is_orderly(division=made((0, 1), (0, 1))), True)


if __name__ == "__main__":
    unittest.main()
