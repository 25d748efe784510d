"""[51] Kept, and what KeptFine has from it."""

import unittest

from poolshares.errors import NoDivision, NoPerson, NoRing, NothingBetter
from poolshares.pools import Fine, Kept, KeptFine, Pool
from searches import LONG, drawn_divisions, made, plain_exchanged, plain_ring, plain_rings
from values import not_divisions, not_numbers, not_rings

# Each two of the first three have a ring; the fourth has none with anybody.
MANY = made((0, 4), (2, 0), (3, 0), (1, 1))
KINDS = (Kept, KeptFine)


class TestMaking(unittest.TestCase):
    def test_what_they_are(self):
        for kind in KINDS:
            pool = kind(MANY)
            self.assertIsInstance(pool, Kept)
            self.assertIsInstance(pool, Pool)
            self.assertEqual(isinstance(pool, Fine), kind is KeptFine)
            self.assertEqual((pool.division, pool.changes, len(pool)), (MANY, 0, 4))
        self.assertEqual(repr(Kept(MANY, 2)), "Kept(4 people, 2 states)")
        self.assertEqual(repr(KeptFine(MANY, 2)), "KeptFine(4 people, 2 states)")

    def test_each_person(self):
        for kind in KINDS:
            for people in (2, 3, 4):
                division = made(*[(0, 1)] * people)
                for person in range(-2, 7):
                    if 0 <= person < people:
                        self.assertEqual(kind(division, person).division, division)
                        self.assertEqual(kind(division=division, person=person).division, division)
                    else:
                        self.assertRaises(NoPerson, kind, division, person)

    def test_the_first_person_is_kept_by_default(self):
        for kind in KINDS:
            self.assertEqual(kind(MANY).best(), plain_ring(MANY, absent=0))
            self.assertEqual(kind(MANY, 0).best(), plain_ring(MANY, absent=0))
            self.assertRaises(NoRing, kind(MANY), ((0, 1), (0, 1)))

    def test_no_person(self):
        for kind in KINDS:
            for thing in not_numbers() + [10 ** 13 - 1, -1, 4]:
                with self.subTest(repr(thing)):
                    self.assertRaises(NoPerson, kind, MANY, thing)

    def test_no_division_whatever_else_is_wrong(self):
        for kind in KINDS:
            for thing in not_divisions():
                for person in (0, 4, None, True, thing):
                    self.assertRaises(NoDivision, kind, thing, person)


class TestBest(unittest.TestCase):
    def test_cases(self):
        for person, expected in ((0, None), (1, ((0, 1), (0, 2))), (2, ((0, 1), (0, 1))), (3, ((0, 1), (0, 1)))):
            for kind in KINDS:
                self.assertEqual(kind(MANY, person).best(), expected)

    def test_a_longer_ring_without_the_person(self):
        # Only the last person makes rings of two.
        division = made((0, 2, 1), (0, 0, 1), (1, 1, 0), (9, 0, 0))
        self.assertEqual(Pool(division).best(), ((0, 1), (0, 3)))
        for kind in KINDS:
            self.assertEqual(kind(division, 3).best(), ((0, 1, 2), (0, 1, 2)))

    def test_against_a_search_over_all_rings(self):
        for division in drawn_divisions(90, 2):
            for person in range(division.people):
                for kind in KINDS:
                    self.assertEqual(kind(division, person).best(), plain_ring(division, absent=person))

    def test_two_people_never_have_one(self):
        for kind in KINDS:
            for person in (0, 1):
                pool = kind(made((0, 30), (30, 0)), person)
                self.assertIsNone(pool.best())
                self.assertRaises(NothingBetter, pool.improve)
                self.assertEqual((pool.division, pool.changes), (made((0, 30), (30, 0)), 0))

    def test_the_longest_of_the_shortest_rings(self):
        for person in range(4):
            self.assertIsNone(Kept(made(*LONG), person).best())

    def test_improve_keeps_the_share(self):
        for division in drawn_divisions(91, 1):
            for person in range(division.people):
                pool = Kept(division, person)
                around = pool.best()
                while around is not None:
                    before = pool.division
                    self.assertEqual(pool.improve(), around)
                    self.assertNotIn(person, around[1])
                    self.assertEqual(pool.division, plain_exchanged(before, around))
                    around = pool.best()
                self.assertEqual(pool.division[person], division[person])
                self.assertRaises(NothingBetter, pool.improve)
                while pool.changes:
                    pool.undo()
                self.assertEqual(pool.division, division)


class TestExchange(unittest.TestCase):
    def test_all_rings_of_drawn_divisions(self):
        for division in drawn_divisions(92, 1):
            for length in range(2, division.states + 1):
                for around in plain_rings(division, length)[-4:]:
                    for person in range(division.people):
                        for kind in KINDS:
                            self.check(kind, division, person, around)

    def check(self, kind, division, person, around):
        one, other = kind(division, person), kind(division, person)
        if person in around[1]:
            self.assertRaises(NoRing, one.exchange, around)
            self.assertRaises(NoRing, other, around)
            expected = (division, 0)
        else:
            one.exchange(around)
            other(around)
            expected = (plain_exchanged(division, around), 1)
        self.assertEqual((one.division, one.changes), expected)
        self.assertEqual((other.division, other.changes), expected)

    def test_no_ring(self):
        around = ((0, 1), (0, 1))
        for kind in KINDS:
            pool = kind(MANY, 2)
            for thing in not_rings() + [list(around), ((0, 1), (False, 1)), ((0, True), (0, 1)), ((1, 0), (0, 1))]:
                with self.subTest(repr(thing)):
                    self.assertRaises(NoRing, pool.exchange, thing)
                    self.assertRaises(NoRing, pool, thing)
            self.assertEqual((pool.division, pool.changes), (MANY, 0))
            pool(around)
            self.assertEqual(pool.changes, 1)

    def test_what_changes_the_person_and_is_no_ring_either(self):
        pool = Kept(made((0, 1), (1, 0), (5, 5)), 0)
        self.assertRaises(NoRing, pool, ((0, 1), (0, 1)))
        self.assertRaises(NoRing, pool, ((0, 1), (0, 9)))


class TestAssign(unittest.TestCase):
    def test_the_same_share_of_the_person(self):
        for kind in KINDS:
            for person in range(4):
                rows = [(9, 9), (9, 9), (9, 9), (9, 9)]
                rows[person] = MANY[person].amounts
                pool = kind(MANY, person)
                pool.division = made(*rows)
                self.assertEqual((pool.division, pool.changes), (made(*rows), 1))
                pool.assign_division(MANY)
                self.assertEqual((pool.division, pool.changes), (MANY, 2))

    def test_another_share_of_the_person(self):
        for kind in KINDS:
            for person in range(4):
                rows = [list(share.amounts) for share in MANY.shares]
                rows[person][0] += 1
                rows[person][1] -= rows[person][1] > 0
                self.check_refused(kind(MANY, person), made(*rows))
                self.check_refused(kind(MANY, person), made(*[(9, 9)] * 4))

    def test_the_same_amounts_in_another_order(self):
        for kind in KINDS:
            self.check_refused(kind(MANY), made((4, 0), (2, 0), (3, 0), (1, 1)))

    def test_the_share_of_the_person_and_another_number(self):
        for kind in KINDS:
            self.check_refused(kind(MANY), made((0, 4), (2, 0), (3, 0)))
            self.check_refused(kind(MANY, 3), made((0, 4), (2, 0), (1, 1)))
            self.check_refused(kind(MANY, 3), made((0, 4), (2, 0)))
            self.check_refused(kind(MANY), made((0, 4, 0), (2, 0, 0), (3, 0, 0), (1, 1, 0)))
            self.check_refused(kind(made((0, 1), (0, 1)), 1), made((0, 1), (0, 1), (0, 1)))

    def test_no_division(self):
        for kind in KINDS:
            for thing in not_divisions():
                with self.subTest(repr(thing)):
                    self.check_refused(kind(MANY, 3), thing)

    def check_refused(self, pool, thing):
        before = pool.division
        with self.assertRaises(NoDivision):
            pool.division = thing
        self.assertRaises(NoDivision, pool.assign_division, thing)
        self.assertEqual((pool.division, pool.changes), (before, 0))

    def test_after_other_changes(self):
        pool = Kept(MANY, 1)
        pool.improve()
        pool.division = made((9, 9), (2, 0), (9, 9), (9, 9))
        self.assertRaises(NoDivision, pool.assign_division, made((9, 9), (9, 9), (2, 0), (9, 9)))
        pool.undo()
        self.assertEqual((pool.division, pool.changes), (made((1, 3), (2, 0), (2, 1), (1, 1)), 1))


if __name__ == "__main__":
    unittest.main()
