"""[32] verdict and shows_verdict, and that they tell whether a division can be improved."""

import unittest
from itertools import product
from random import Random

from poolshares.errors import NoDivision
from poolshares.rings import verdict, shows_verdict
from searches import LONG, are_levels, can_be_improved, drawn_divisions, drawn_rows, made, plain_levels, plain_ring
from searches import plain_rings
from values import not_divisions, not_rings

VERDICTS = [
    (((0, 2, 1), (0, 0, 1), (1, 1, 0)), ("ring", ((0, 1, 2), (0, 1, 2)))),
    (((1, 1, 1), (0, 1, 0), (0, 1, 1)), ("levels", (0, 0, 0))),
    (((0, 0), (0, 0)), ("levels", (0, 0))),
    (((0, 30), (30, 0)), ("ring", ((0, 1), (0, 1)))),
    (((15, 16), (16, 15)), ("levels", (0, 0))),
    (((0, 6, 12, 18, 24, 30),) * 4, ("levels", (0, 1, 2, 3, 4, 5))),
    (LONG, ("ring", ((0, 1, 2, 3), (0, 1, 2, 3)))),
]


class TestVerdict(unittest.TestCase):
    def test_cases(self):
        for rows, expected in VERDICTS:
            with self.subTest(rows):
                self.assertEqual(verdict(made(*rows)), expected)
                self.assertIs(shows_verdict(made(*rows), expected), True)

    def test_kinds(self):
        for rows, _ in VERDICTS:
            found = verdict(made(*rows))
            self.assertEqual((type(found), len(found), type(found[0]), type(found[1])), (tuple, 2, str, tuple))

    def test_drawn_divisions(self):
        for division in drawn_divisions(50, 1):
            around = plain_ring(division)
            expected = ("ring", around) if around else ("levels", plain_levels(division))
            self.assertEqual(verdict(division), expected)
            self.assertIs(shows_verdict(division, expected), True)

    def test_whether_small_divisions_can_be_improved(self):
        for people, states, most in ((2, 2, 3), (2, 3, 2), (3, 2, 1), (2, 4, 1), (3, 3, 1)):
            for rows in product(product(range(most + 1), repeat=states), repeat=people):
                division = made(*rows)
                self.assertEqual(verdict(division)[0] == "ring", can_be_improved(division), rows)

    def test_whether_drawn_divisions_can_be_improved(self):
        draw = Random(51)
        for people, states, most, times in ((2, 3, 5, 60), (3, 2, 3, 60), (3, 3, 2, 25), (2, 4, 3, 40), (4, 2, 2, 40)):
            for _ in range(times):
                division = made(*drawn_rows(draw, people, states, most))
                self.assertEqual(verdict(division)[0] == "ring", can_be_improved(division), division.text())

    def test_no_division(self):
        for thing in not_divisions():
            with self.subTest(repr(thing)):
                self.assertRaises(NoDivision, verdict, thing)


class TestShowsVerdict(unittest.TestCase):
    def test_any_ring(self):
        division = made((0, 1, 0, 1, 0, 1), (3, 0, 1, 0, 1, 0))
        self.assertIs(shows_verdict(division, ("ring", ((0, 1, 2, 3, 4, 5), (0, 1, 0, 1, 0, 1)))), True)
        for length in range(2, 7):
            for around in plain_rings(division, length)[-20:]:
                self.assertIs(shows_verdict(division, ("ring", around)), True)
                self.assertIs(shows_verdict(division, ("levels", around)), False)
        self.assertIs(shows_verdict(division, ("ring", ((0, 1), (0, 0)))), False)
        self.assertIs(shows_verdict(division, ("levels", (0, 0, 0, 0, 0, 0))), False)

    def test_any_levels(self):
        division = made((0, 2, 1), (0, 1, 1))
        for thing in product(range(-2, 3), repeat=3):
            self.assertIs(shows_verdict(division, ("levels", thing)), are_levels(division, thing))
            self.assertIs(shows_verdict(division, ("ring", thing)), False)

    def test_values_that_show_nothing(self):
        around = ((0, 1), (0, 1))
        for division in (made((0, 2), (2, 0)), made((0, 1), (1, 0))):
            for thing in not_rings() + [around, (0, 0), (0, 1)]:
                with self.subTest(repr(thing)):
                    expected = division[0][1] == 2 and thing == ("ring", around)
                    self.assertIs(shows_verdict(division, thing), expected)
                    self.assertIs(shows_verdict(division, ("ring", thing)), division[0][1] == 2 and thing == around)
                    expected = division[0][1] == 1 and type(thing) is tuple and [type(x) for x in thing] == [int, int]
                    self.assertIs(shows_verdict(division, ("levels", thing)), expected and thing[0] == thing[1])

    def test_other_words_and_forms(self):
        around = ((0, 1), (0, 1))
        division, flat = made((0, 2), (2, 0)), made((0, 1), (1, 0))
        for word in ("Ring", "ring ", "rings", "", "order", None, True, 0, ["ring"], ("ring",), b"ring"):
            self.assertIs(shows_verdict(division, (word, around)), False)
        for word in ("level", "Levels", "", "order", None, True, 0, ["levels"], ("levels",)):
            self.assertIs(shows_verdict(flat, (word, (0, 0))), False)
        for thing in (["ring", around], ("ring", around, around), ("ring",), ("ring", list(around)), (around, "ring")):
            self.assertIs(shows_verdict(division, thing), False)
        for thing in (["levels", (0, 0)], ("levels", (0, 0), 0), ("levels",), ("levels", [0, 0]), ((0, 0), "levels")):
            self.assertIs(shows_verdict(flat, thing), False)
        self.assertIs(shows_verdict(flat, ("levels", (False, False))), False)
        self.assertIs(shows_verdict(division, ("ring", ((False, True), (0, 1)))), False)
        self.assertIs(shows_verdict(division=flat, thing=("levels", (7, 7))), True)

    def test_no_division_whatever_else_is_wrong(self):
        for thing in not_divisions():
            for other in (("levels", (0, 0)), None, thing):
                with self.subTest(repr(thing)):
                    self.assertRaises(NoDivision, shows_verdict, thing, other)


if __name__ == "__main__":
    unittest.main()
