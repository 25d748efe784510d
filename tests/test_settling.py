"""[33] settle and settled."""

import inspect
import unittest

from poolshares.divisions import Division
from poolshares.errors import NoDivision
from poolshares.rings import ring
from poolshares.settling import settle, settled
from poolshares.shares import is_calm
from searches import LONG, drawn_divisions, made, plain_exchanged, plain_ring
from values import not_divisions

SESSION = ((0, 2, 1), (0, 0, 1), (1, 1, 0))


class TestSettle(unittest.TestCase):
    def test_cases(self):
        for rows, rings, end in (
            (SESSION, [((0, 1, 2), (0, 1, 2))], ((1, 1, 1), (0, 1, 0), (0, 1, 1))),
            (((0, 5), (5, 0)), [((0, 1), (0, 1))] * 2, ((2, 3), (3, 2))),
            (((0, 30), (30, 0)), [((0, 1), (0, 1))] * 15, ((15, 15), (15, 15))),
            (((0, 1), (1, 0)), [], ((0, 1), (1, 0))),
            (((0, 0), (0, 0)), [], ((0, 0), (0, 0))),
            (LONG, [((0, 1, 2, 3), (0, 1, 2, 3))], ((1, 0, 0, 0), (1, 1, 0, 0), (1, 1, 1, 0), (1, 1, 1, 1))),
        ):
            with self.subTest(rows):
                self.assertEqual(list(settle(made(*rows))), rings)
                self.assertEqual(settled(made(*rows)), made(*end))

    def test_against_a_search_over_all_rings(self):
        for division in drawn_divisions(60, 2):
            now, expected = division, []
            while len(expected) < 5 and plain_ring(now):
                expected.append(plain_ring(now))
                now = plain_exchanged(now, expected[-1])
            found = [around for around, _ in zip(settle(division), range(5))]
            self.assertEqual(found, expected)

    def test_the_end(self):
        for division in drawn_divisions(61, 2):
            now, text = division, division.text()
            for around in settle(division):
                self.assertEqual(around, ring(now))
                now = plain_exchanged(now, around)
            self.assertIsNone(ring(now))
            self.assertEqual(settled(division), now)
            self.assertEqual((now.totals, division.text()), (division.totals, text))
            self.assertTrue(all(is_calm(old, new) for old, new in zip(division.shares, now.shares)))

    def test_many_exchanges(self):
        division = made((0, 0, 0, 30, 30, 30), (30, 30, 30, 0, 0, 0), (0, 30, 0, 30, 0, 30), (30, 0, 30, 0, 30, 0))
        self.assertEqual(settled(division), made(*[(15,) * 6] * 4))

    def test_kinds(self):
        self.assertTrue(inspect.isgenerator(settle(made(*SESSION))))
        self.assertEqual([type(around) for around in settle(made(*SESSION))], [tuple])
        self.assertIs(type(settled(made(*SESSION))), Division)
        self.assertEqual(settled(division=made((1, 1), (1, 1))), made((1, 1), (1, 1)))
        self.assertEqual(list(settle(division=made((1, 1), (1, 1)))), [])

    def test_two_generators_do_not_disturb_each_other(self):
        division = made((0, 5, 9), (5, 0, 0))
        one, other = settle(division), settle(division)
        together = [(next(one), next(other)) for _ in range(2)]
        self.assertEqual(together, [(around, around) for around in list(settle(division))[:2]])

    def test_an_exception_is_raised_at_the_first_iteration(self):
        for thing in not_divisions():
            with self.subTest(repr(thing)):
                rings = settle(thing)
                self.assertTrue(inspect.isgenerator(rings))
                self.assertRaises(NoDivision, next, rings)
                self.assertRaises(NoDivision, list, settle(thing))
                self.assertRaises(NoDivision, settled, thing)


if __name__ == "__main__":
    unittest.main()
