"""[30] ring, shows_ring and exchanged."""

import unittest
from itertools import permutations, product

from poolshares.divisions import Division
from poolshares.errors import NoDivision, NoRing
from poolshares.rings import exchanged, ring, shows_ring
from poolshares.shares import Share, is_calm, is_calmer
from searches import LONG, drawn_divisions, made, plain_exchanged, plain_ring, plain_rings, rises_along, rows_of
from values import PLAIN, not_divisions, not_rings

SESSION = ((0, 2, 1), (0, 0, 1), (1, 1, 0))
# The rows, and the first of the shortest rings.
RINGS = [
    (SESSION, ((0, 1, 2), (0, 1, 2))),
    (((0, 2), (2, 0)), ((0, 1), (0, 1))),
    (((2, 0), (0, 2)), ((0, 1), (1, 0))),
    # One of the two rises by 1 only, whichever of them.
    (((0, 1), (2, 0)), ((0, 1), (0, 1))),
    (((0, 2), (1, 0)), ((0, 1), (0, 1))),
    (((0, 30), (30, 0)), ((0, 1), (0, 1))),
    (((14, 16), (16, 15)), ((0, 1), (0, 1))),
    # Rises by 1 alone do not make a ring.
    (((0, 1), (1, 0)), None),
    (((0, 1), (1, 0), (0, 1), (1, 0)), None),
    (((0, 1, 0), (0, 0, 1), (1, 0, 0)), None),
    (((0, 0), (0, 0)), None),
    (((30, 30), (30, 30), (30, 30), (30, 30)), None),
    (((0, 15, 30), (0, 16, 30)), None),
    (((0, 30), (0, 0)), None),
    (((0, 6, 12, 18, 24, 30),) * 4, None),
    # The first person who rises at all is not the first who rises by 2.
    (((0, 1), (0, 2), (1, 0)), ((0, 1), (1, 2))),
    (((0, 1), (1, 0), (0, 2), (2, 0)), ((0, 1), (0, 3))),
    (((0, 1), (1, 0), (0, 2), (1, 0)), ((0, 1), (2, 1))),
    (((0, 2), (0, 1), (1, 0)), ((0, 1), (0, 2))),
    # The first states come before the first people.
    (((5, 5, 5, 0, 2), (5, 5, 5, 2, 0)), ((3, 4), (0, 1))),
    (((1, 0, 2), (0, 9, 0), (2, 9, 1)), ((0, 1), (1, 0))),
    # A longer ring with smaller states does not come first.
    (((0, 2, 1, 9, 11), (0, 0, 1, 11, 9), (1, 1, 0, 9, 9)), ((3, 4), (0, 1))),
    (LONG, ((0, 1, 2, 3), (0, 1, 2, 3))),
    (tuple((*row, 30, 30) for row in LONG), ((0, 1, 2, 3), (0, 1, 2, 3))),
]
# A ring of all six states, in which people occur several times; shorter ones are there, too.
SIX = ((0, 1, 0, 1, 0, 1), (3, 0, 1, 0, 1, 0))
SIX_AROUND = ((0, 1, 2, 3, 4, 5), (0, 1, 0, 1, 0, 1))


class TestRing(unittest.TestCase):
    def test_cases(self):
        for rows, expected in RINGS:
            with self.subTest(rows):
                self.assertEqual(ring(made(*rows)), expected)

    def test_kinds(self):
        states, people = found = ring(made(*SESSION))
        self.assertEqual((type(found), type(states), type(people)), (tuple, tuple, tuple))
        self.assertEqual({type(number) for number in states + people}, {int})

    def test_against_a_search_over_all_rings(self):
        for division in drawn_divisions(30, 6):
            with self.subTest(division.text()):
                self.assertEqual(ring(division), plain_ring(division))

    def test_the_search_leaves_out_no_ring(self):
        # plain_rings seats only people who rise; here every person is tried at every place.
        for division in drawn_divisions(34, 1)[::3]:
            for length in range(2, division.states + 1):
                if division.people ** length <= 256:
                    everything = product(permutations(range(division.states), length),
                                         product(range(division.people), repeat=length))
                    found = [thing for thing in everything if is_ring(division, *thing)]
                    self.assertEqual(sorted(plain_rings(division, length)), found)

    def test_against_a_search_for_all_small_divisions(self):
        for rows in product(product(range(3), repeat=3), repeat=2):
            self.assertEqual(ring(made(*rows)), plain_ring(made(*rows)))
        for rows in product(product((0, 1, 3), repeat=2), repeat=3):
            self.assertEqual(ring(made(*rows)), plain_ring(made(*rows)))

    def test_again_and_unchanged(self):
        division = made(*SESSION)
        self.assertEqual(ring(division), ring(division))
        self.assertEqual(division, made(*SESSION))

    def test_no_division(self):
        for thing in not_divisions():
            with self.subTest(repr(thing)):
                self.assertRaises(NoDivision, ring, thing)


class TestShowsRing(unittest.TestCase):
    def test_every_pair_of_small_tuples(self):
        parts = [part for length in range(4) for part in product(range(-1, 4), repeat=length)]
        for rows in (SESSION, ((0, 2), (2, 0)), ((0, 1, 3), (2, 1, 0))):
            division = made(*rows)
            rings = plain_rings(division, 2) + plain_rings(division, 3)
            shown = [thing for thing in product(parts, parts) if shows_ring(division, thing)]
            self.assertEqual(sorted(shown), sorted(rings))

    def test_all_rings_of_drawn_divisions(self):
        for division in drawn_divisions(31, 1):
            for length in range(2, division.states + 1):
                for thing in plain_rings(division, length)[:40]:
                    self.assertIs(shows_ring(division, thing), True)

    def test_turned_rings_and_those_with_one_number_changed(self):
        for division in drawn_divisions(32, 1):
            for length in range(2, division.states + 1):
                for states, people in plain_rings(division, length)[:3]:
                    self.assertIs(shows_ring(division, (states[1:] + states[:1], people[1:] + people[:1])), True)
                    for thing in changed(states, people):
                        self.assertIs(shows_ring(division, thing), is_ring(division, *thing), (division.text(), thing))

    def test_a_ring_of_the_greatest_length(self):
        division = made(*SIX)
        self.assertIs(shows_ring(division, SIX_AROUND), True)
        self.assertIs(shows_ring(division, ((5, 0, 1, 2, 3, 4), (1, 0, 1, 0, 1, 0))), True)
        self.assertIs(shows_ring(division, ((0, 1, 2, 3, 4, 5), (1, 0, 1, 0, 1, 0))), False)
        self.assertIs(shows_ring(division, ((0, 1, 2, 3, 4, 5, 0, 1), (0, 1, 0, 1, 0, 1, 0, 1))), False)
        self.assertIs(shows_ring(division, ((0, 1, 2, 3, 4, 5) * 2, (0, 1, 0, 1, 0, 1) * 2)), False)
        self.assertIs(shows_ring(made((0, 1, 0, 1, 0, 1), (1, 0, 1, 0, 1, 0)), SIX_AROUND), False)

    def test_bools_are_not_integers(self):
        division = made((0, 2), (2, 0))
        self.assertIs(shows_ring(division, ((0, 1), (0, 1))), True)
        for numbers in product((0, False), (1, True), (0, False), (1, True)):
            thing = (numbers[:2], numbers[2:])
            expected = all(type(number) is int for number in numbers)
            self.assertIs(shows_ring(division, thing), expected, thing)

    def test_lists_are_not_tuples(self):
        division = made((0, 2), (2, 0))
        for thing in ([(0, 1), (0, 1)], ([0, 1], (0, 1)), ((0, 1), [0, 1]), [[0, 1], [0, 1]], {(0, 1): (0, 1)}):
            self.assertIs(shows_ring(division, thing), False, thing)

    def test_other_values(self):
        division = made((0, 2), (2, 0))
        more = [((0, 1), (0, 1), ()), (((0, 1), (0, 1)), ()), ((0, 1), (0, 1, 0)), ((0, 1, 0), (0, 1)), ((0, 1), "01")]
        for thing in not_rings() + more + [division, ((0, None), (0, 1)), ((0, 1), (0, "1")), ((0, (1,)), (0, 1))]:
            with self.subTest(repr(thing)):
                self.assertIs(shows_ring(division, thing), False)

    def test_great_and_deep_values(self):
        division = made((0, 2), (2, 0))
        self.assertIs(shows_ring(division, ((0, 1) * 2000, (0, 1) * 2000)), False)
        self.assertIs(shows_ring(division, ((0, 10 ** 13 - 1), (0, 1))), False)
        self.assertIs(shows_ring(division, ((0, 1), (0, -10 ** 13 + 1))), False)

    def test_no_division_whatever_else_is_wrong(self):
        for thing in not_divisions():
            for other in (((0, 1), (0, 1)), None, thing):
                with self.subTest(repr(thing)):
                    self.assertRaises(NoDivision, shows_ring, thing, other)


class TestExchanged(unittest.TestCase):
    def test_cases(self):
        for rows, around, expected in (
            (SESSION, ((0, 1, 2), (0, 1, 2)), ((1, 1, 1), (0, 1, 0), (0, 1, 1))),
            (((0, 2), (2, 0)), ((0, 1), (0, 1)), ((1, 1), (1, 1))),
            (((0, 30), (30, 0)), ((1, 0), (1, 0)), ((1, 29), (29, 1))),
            (((15, 16, 3), (30, 16, 0)), ((0, 1), (0, 1)), ((16, 15, 3), (29, 17, 0))),
            (SIX, SIX_AROUND, ((1, 0, 1, 0, 1, 0), (2, 1, 0, 1, 0, 1))),
            # A person occurs twice, one behind the other.
            (((0, 1, 2), (5, 5, 0)), ((0, 1, 2), (0, 0, 1)), ((1, 1, 1), (4, 5, 1))),
        ):
            with self.subTest(rows):
                self.assertEqual(rows_of(exchanged(made(*rows), around)), list(expected))

    def test_the_edges_of_amounts(self):
        division = made((29, 30), (2, 0))
        self.assertEqual(rows_of(exchanged(division, ((0, 1), (0, 1)))), [(30, 29), (1, 1)])
        division = made((0, 1), (30, 0))
        self.assertEqual(rows_of(exchanged(division, ((0, 1), (0, 1)))), [(1, 0), (29, 1)])

    def test_any_ring_of_drawn_divisions(self):
        for division in drawn_divisions(33, 1):
            text = division.text()
            for length in range(2, division.states + 1):
                for around in plain_rings(division, length)[-5:]:
                    after = exchanged(division, around)
                    self.assertIs(type(after), Division)
                    self.assertEqual(after, plain_exchanged(division, around))
                    self.check_calmer(division, after)
            self.assertEqual(division.text(), text)

    def check_calmer(self, before, after):
        self.assertEqual(after.totals, before.totals)
        pairs = list(zip(before.shares, after.shares))
        self.assertTrue(all(is_calm(old, new) for old, new in pairs))
        self.assertTrue(any(is_calmer(old, new) for old, new in pairs))

    def test_no_ring(self):
        division = made((0, 2), (2, 0))
        for thing in not_rings() + [division, [(0, 1), (0, 1)], ((0, True), (0, 1)), ((0, 1), (False, 1))]:
            with self.subTest(repr(thing)):
                self.assertRaises(NoRing, exchanged, division, thing)
        for thing in (((0, 1), (1, 0)), ((0, 1), (0, 0)), ((0, 0), (0, 1)), ((0, 2), (0, 1)), ((0, 1), (0, 2))):
            self.assertRaises(NoRing, exchanged, division, thing)
        self.assertRaises(NoRing, exchanged, made((0, 1), (1, 0)), ((0, 1), (0, 1)))
        self.assertRaises(NoRing, exchanged, made((0, 1), (1, 0)), None)
        self.assertEqual(division, made((0, 2), (2, 0)))

    def test_no_division_whatever_else_is_wrong(self):
        for thing in not_divisions():
            for other in (((0, 1), (0, 1)), None, thing, PLAIN, Share((0, 1))):
                with self.subTest(repr(thing)):
                    self.assertRaises(NoDivision, exchanged, thing, other)

    def test_arguments_by_name(self):
        after = exchanged(division=made((0, 2), (2, 0)), ring=((0, 1), (0, 1)))
        self.assertEqual(after, made((1, 1), (1, 1)))
        self.assertIs(shows_ring(division=after, thing=((0, 1), (0, 1))), False)
        self.assertIsNone(ring(division=after))


def changed(states, people):
    """The ring with each one of its numbers replaced by others, and with places left out."""
    for at in range(len(states)):
        for number in range(7):
            yield (states[:at] + (number,) + states[at + 1:], people)
            yield (states, people[:at] + (number,) + people[at + 1:])
        yield (states[:at] + states[at + 1:], people[:at] + people[at + 1:])
        yield (states[:at] + states[at + 1:], people)
        yield (states, people[:at] + people[at + 1:])


def is_ring(division, states, people):
    if len(states) != len(people) or len(states) < 2 or len(set(states)) < len(states):
        return False
    if max(states) >= division.states or max(people) >= division.people:
        return False
    rises = rises_along(rows_of(division), states, people)
    return min(rises) >= 1 and max(rises) >= 2


if __name__ == "__main__":
    unittest.main()
