"""[31] levels and shows_levels."""

import unittest
from itertools import product

from poolshares.errors import NoDivision
from poolshares.rings import levels, ring, shows_levels
from poolshares.shares import Share
from searches import LONG, are_levels, drawn_divisions, made, plain_levels
from values import not_divisions, not_numbers

# The rows, and the smallest levels.
LEVELS = [
    (((1, 1, 1), (0, 1, 0), (0, 1, 1)), (0, 0, 0)),
    (((0, 0), (0, 0)), (0, 0)),
    (((30, 30),) * 4, (0, 0)),
    (((0, 1), (1, 0)), (0, 0)),
    (((0, 1), (0, 1)), (0, 0)),
    (((0, 2), (0, 0)), (0, 1)),
    (((2, 0), (0, 0)), (1, 0)),
    (((0, 30), (0, 0)), (0, 1)),
    (((15, 16), (16, 15)), (0, 0)),
    (((15, 16), (16, 14)), None),
    (((0, 2), (2, 0)), None),
    (((0, 2), (1, 0)), None),
    # Single units add up, but the level does not: only rises by 2 or more lift it.
    (((0, 1, 2, 3, 4, 5), (0, 0, 0, 0, 0, 0)), (0, 0, 1, 1, 2, 2)),
    (((5, 4, 3, 2, 1, 0), (0, 0, 0, 0, 0, 0)), (2, 2, 1, 1, 0, 0)),
    # As great as they can be.
    (((0, 6, 12, 18, 24, 30),) * 4, (0, 1, 2, 3, 4, 5)),
    (((10, 8, 6, 4, 2, 0), (0, 0, 0, 0, 0, 0)), (5, 4, 3, 2, 1, 0)),
    (((0, 2, 2, 2, 2, 4), (1, 1, 3, 3, 5, 5)), (0, 1, 2, 2, 3, 4)),
    # Each person lifts one step.
    (((0, 2, 2), (0, 0, 2)), (0, 1, 2)),
    (((0, 1, 0, 0), (0, 0, 1, 0), (0, 0, 0, 1), (0, 2, 2, 2)), (0, 1, 1, 1)),
    # A level is lifted along rises by 1 of others.
    (((0, 2, 2), (1, 1, 2), (0, 0, 0)), (0, 1, 1)),
    (((0, 2, 1, 1), (3, 3, 4, 3)), (0, 1, 1, 0)),
    (((0, 2, 1, 1), (3, 3, 4, 5)), None),
    (LONG, None),
    (((0, 2, 1), (0, 0, 1), (1, 1, 0)), None),
]


class TestLevels(unittest.TestCase):
    def test_cases(self):
        for rows, expected in LEVELS:
            with self.subTest(rows):
                self.assertEqual(levels(made(*rows)), expected)
                self.assertEqual(plain_levels(made(*rows)), expected)

    def test_kinds(self):
        found = levels(made((0, 2), (0, 0)))
        self.assertEqual((type(found), [type(level) for level in found]), (tuple, [int, int]))

    def test_against_a_search_over_all_levels(self):
        for division in drawn_divisions(40, 1):
            with self.subTest(division.text()):
                self.assertEqual(levels(division), plain_levels(division))

    def test_against_a_search_for_all_small_divisions(self):
        for rows in product(product(range(3), repeat=3), repeat=2):
            self.assertEqual(levels(made(*rows)), plain_levels(made(*rows)))
        for rows in product(product((0, 1, 3), repeat=2), repeat=3):
            self.assertEqual(levels(made(*rows)), plain_levels(made(*rows)))

    def test_either_a_ring_or_levels(self):
        for division in drawn_divisions(41, 6):
            self.assertNotEqual(ring(division) is None, levels(division) is None)

    def test_each_level_is_less_than_the_number_of_states(self):
        for division in drawn_divisions(42, 6):
            found = levels(division)
            if found is not None:
                self.assertEqual((len(found), min(found)), (division.states, 0))
                self.assertLess(max(found), division.states)
                self.assertIs(shows_levels(division, found), True)

    def test_no_division(self):
        for thing in not_divisions():
            with self.subTest(repr(thing)):
                self.assertRaises(NoDivision, levels, thing)


class TestShowsLevels(unittest.TestCase):
    def test_every_small_tuple(self):
        for rows in (((0, 1, 2), (0, 0, 1)), ((0, 2, 1), (0, 0, 1), (1, 1, 0)), ((0, 0, 0), (1, 1, 1))):
            division = made(*rows)
            for length in range(5):
                for thing in product(range(-2, 4), repeat=length):
                    expected = length == 3 and are_levels(division, thing)
                    self.assertIs(shows_levels(division, thing), expected, (rows, thing))

    def test_drawn_tuples(self):
        for division in drawn_divisions(43, 2):
            lowest = levels(division)
            for at in range(division.states if lowest else 0):
                for by in (-2, -1, 1, 2):
                    thing = lowest[:at] + (lowest[at] + by,) + lowest[at + 1:]
                    self.assertIs(shows_levels(division, thing), are_levels(division, thing))

    def test_levels_that_are_not_the_smallest(self):
        division = made((0, 2), (0, 0))
        for thing in ((0, 1), (5, 6), (-1, 0), (-7, -3), (0, 10 ** 13 - 1), (-10 ** 13 + 1, 10 ** 13 - 1)):
            self.assertIs(shows_levels(division, thing), True, thing)
        for thing in ((0, 0), (1, 0), (6, 5), (-3, -7), (10 ** 13 - 1, 0), (-1, -1)):
            self.assertIs(shows_levels(division, thing), False, thing)
        flat = made((0, 0), (3, 3))
        for thing in ((0, 0), (0, 1), (1, 0), (-9, 9), (9, -9)):
            self.assertIs(shows_levels(flat, thing), True, thing)

    def test_bools_are_not_integers(self):
        division = made((0, 2), (0, 0))
        for thing in ((False, True), (False, 1), (0, True)):
            self.assertIs(shows_levels(division, thing), False, thing)
        self.assertIs(shows_levels(made((0, 0), (0, 0)), (False, False)), False)
        self.assertIs(shows_levels(made((0, 0), (0, 0)), (0, True)), False)

    def test_other_values(self):
        for division in (made((0, 0), (0, 0)), made((0, 0, 0), (0, 0, 0)), made((0, 2), (2, 0))):
            for thing in not_numbers() + [0, 1, [0, 0], [0, 0, 0], (0, None), (0, "1"), (0, (1,)), ("0", "0", "0")]:
                with self.subTest(repr(thing)):
                    self.assertIs(shows_levels(division, thing), False)

    def test_another_number_of_states(self):
        division = made((0, 0, 0), (0, 0, 0))
        for length in range(9):
            self.assertIs(shows_levels(division, (0,) * length), length == 3)
        self.assertIs(shows_levels(division, (0,) * 7999), False)

    def test_no_division_whatever_else_is_wrong(self):
        for thing in not_divisions():
            for other in ((0, 0), None, thing, Share((0, 1))):
                with self.subTest(repr(thing)):
                    self.assertRaises(NoDivision, shows_levels, thing, other)

    def test_arguments_by_name(self):
        division = made((0, 2), (0, 0))
        self.assertIs(shows_levels(division=division, thing=levels(division=division)), True)


if __name__ == "__main__":
    unittest.main()
