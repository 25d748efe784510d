"""[50] Pool."""

import unittest

from poolshares.errors import NoDivision, NoRing, NothingBetter, NothingDone, PoolError
from poolshares.pools import Fine, Kept, KeptFine, Pool
from poolshares.rings import ring
from poolshares.settling import settle, settled
from poolshares.shares import Share
from searches import LONG, drawn_divisions, made, plain_exchanged, plain_ring, plain_rings
from values import not_divisions, not_rings

SESSION = made((0, 2, 1), (0, 0, 1), (1, 1, 0))
BETTER = made((1, 1, 1), (0, 1, 0), (0, 1, 1))
AROUND = ((0, 1, 2), (0, 1, 2))
FLAT = made((1, 1, 1), (1, 1, 1), (1, 1, 1))
KINDS = (Pool, Kept, Fine, KeptFine)


def history(pool):
    """All divisions of a pool, the last one first, found by taking back the changes of it."""
    found = [pool.division]
    while pool.changes:
        pool.undo()
        found.append(pool.division)
    return found


class TestMaking(unittest.TestCase):
    def test_a_new_pool(self):
        pool = Pool(SESSION)
        self.assertEqual((pool.division, pool.changes, len(pool)), (SESSION, 0, 3))
        self.assertEqual(Pool(division=SESSION).division, SESSION)

    def test_len_and_repr(self):
        for people in (2, 3, 4):
            for states in (2, 3, 6):
                division = made(*[(1,) * states] * people)
                for kind in KINDS:
                    self.assertEqual(len(kind(division)), people)
                    self.assertEqual(repr(kind(division)), f"{kind.__name__}({people} people, {states} states)")

    def test_kinds(self):
        pool = Pool(SESSION)
        self.assertEqual((type(pool.changes), type(len(pool)), type(repr(pool))), (int, int, str))
        self.assertEqual((type(pool.best()), type(pool.improve())), (tuple, tuple))
        self.assertIsNone(pool.undo())
        self.assertIsNone(pool.exchange(AROUND))
        self.assertIsNone(pool.assign_division(SESSION))
        self.assertIsNone(pool(AROUND))

    def test_no_division(self):
        for kind in KINDS:
            for thing in not_divisions() + [Pool(SESSION)]:
                with self.subTest(repr(thing)):
                    self.assertRaises(NoDivision, kind, thing)

    def test_division_and_changes_are_properties(self):
        pool = Pool(SESSION)
        with self.assertRaises(AttributeError):
            pool.changes = 0
        self.assertEqual((pool.division, pool.changes), (SESSION, 0))

    def test_two_pools_of_one_division(self):
        one, other = Pool(SESSION), Pool(SESSION)
        one.improve()
        self.assertEqual((one.division, one.changes), (BETTER, 1))
        self.assertEqual((other.division, other.changes), (SESSION, 0))
        self.assertEqual(SESSION.text(), "0 2 1\n0 0 1\n1 1 0\n")


class TestAssigning(unittest.TestCase):
    def test_both_ways(self):
        pool = Pool(SESSION)
        pool.division = FLAT
        self.assertEqual((pool.division, pool.changes), (FLAT, 1))
        pool.assign_division(BETTER)
        self.assertEqual((pool.division, pool.changes), (BETTER, 2))
        pool.assign_division(division=SESSION)
        self.assertEqual(history(pool), [SESSION, BETTER, FLAT, SESSION])

    def test_the_same_division_counts(self):
        for kind in KINDS:
            pool = kind(SESSION)
            pool.division = SESSION
            pool.division = pool.division
            pool.assign_division(made((0, 2, 1), (0, 0, 1), (1, 1, 0)))
            self.assertEqual((pool.division, pool.changes), (SESSION, 3))
            pool.undo()
            self.assertEqual((pool.division, pool.changes), (SESSION, 2))

    def test_totals_may_differ(self):
        pool = Pool(SESSION)
        pool.division = made((30, 30, 30), (30, 30, 30), (0, 0, 0))
        self.assertEqual(pool.division.totals, (60, 60, 60))

    def test_other_numbers_of_people_and_states(self):
        for kind in KINDS:
            for people in (2, 3, 4):
                for states in (2, 3, 4, 6):
                    pool = kind(made((1, 1, 1), (2, 2, 2), (3, 3, 3)))
                    after = made(*[(1,) * states, (2,) * states, (3,) * states, (4,) * states][:people])
                    if (people, states) == (3, 3):
                        pool.division = after
                        self.assertEqual(pool.changes, 1)
                    else:
                        self.check_refused(pool, after)

    def test_no_division(self):
        for kind in KINDS:
            for thing in not_divisions() + [Pool(SESSION), SESSION.text()]:
                with self.subTest(repr(thing)):
                    self.check_refused(kind(SESSION), thing)

    def check_refused(self, pool, thing):
        before = pool.division
        pool.division = before
        with self.assertRaises(NoDivision):
            pool.division = thing
        self.assertRaises(NoDivision, pool.assign_division, thing)
        self.assertEqual((pool.division, pool.changes), (before, 1))
        self.assertEqual(history(pool), [before, before])


class TestExchanging(unittest.TestCase):
    def test_both_ways(self):
        for make in (Pool.exchange, Pool.__call__):
            pool = Pool(SESSION)
            self.assertIsNone(make(pool, AROUND))
            self.assertEqual((pool.division, pool.changes), (BETTER, 1))
        pool = Pool(SESSION)
        pool(AROUND)
        self.assertEqual((pool.division, pool.changes), (BETTER, 1))
        pool = Pool(SESSION)
        pool.exchange(ring=AROUND)
        self.assertEqual((pool.division, pool.changes), (BETTER, 1))

    def test_any_ring(self):
        for division in drawn_divisions(80, 1):
            for length in range(2, division.states + 1):
                for around in plain_rings(division, length)[-3:]:
                    one, other = Pool(division), Fine(division)
                    one.exchange(around)
                    other(around)
                    self.assertEqual(one.division, plain_exchanged(division, around))
                    self.assertEqual((other.division, other.unit), (one.division, 1))
                    self.assertEqual((one.changes, other.changes), (1, 1))

    def test_a_ring_of_the_greatest_length(self):
        pool = Pool(made((0, 1, 0, 1, 0, 1), (3, 0, 1, 0, 1, 0)))
        pool(((0, 1, 2, 3, 4, 5), (0, 1, 0, 1, 0, 1)))
        self.assertEqual(pool.division, made((1, 0, 1, 0, 1, 0), (2, 1, 0, 1, 0, 1)))

    def test_no_ring(self):
        division = made((0, 2), (2, 0))
        wrong = [[(0, 1), (0, 1)], ((0, 1), [0, 1]), ((0, True), (0, 1)), ((0, 1), (False, True)), ((0, 1), (1, 0))]
        for kind in KINDS:
            for thing in not_rings() + wrong + [division, Pool(division), ((0, 1), (0, 2)), ((0, 2), (0, 1))]:
                with self.subTest(repr(thing)):
                    pool = kind(division)
                    pool.division = division
                    self.assertRaises(NoRing, pool.exchange, thing)
                    self.assertRaises(NoRing, pool, thing)
                    self.assertEqual((pool.division, pool.changes), (division, 1))
                    self.assertEqual(history(pool), [division, division])

    def test_a_ring_that_was_one(self):
        pool = Pool(SESSION)
        pool(AROUND)
        self.assertRaises(NoRing, pool, AROUND)
        self.assertEqual((pool.division, pool.changes), (BETTER, 1))


class TestImproving(unittest.TestCase):
    def test_the_session(self):
        pool = Pool(SESSION)
        self.assertEqual(pool.best(), AROUND)
        self.assertEqual((pool.division, pool.changes), (SESSION, 0))
        self.assertEqual(pool.improve(), AROUND)
        self.assertEqual((pool.division, pool.changes, pool.best()), (BETTER, 1, None))

    def test_best_and_improve(self):
        for division in drawn_divisions(81, 2):
            pool = Pool(division)
            self.assertEqual(pool.best(), plain_ring(division))
            self.assertEqual((pool.division, pool.changes), (division, 0))
            if pool.best() is None:
                self.assertRaises(NothingBetter, pool.improve)
                self.assertEqual((pool.division, pool.changes), (division, 0))
            else:
                around = pool.improve()
                self.assertEqual(around, plain_ring(division))
                self.assertEqual((pool.division, pool.changes), (plain_exchanged(division, around), 1))

    def test_until_there_is_nothing_better(self):
        for division in drawn_divisions(82, 1):
            pool = Pool(division)
            rings = []
            while pool.best() is not None:
                rings.append(pool.improve())
            self.assertEqual(rings, list(settle(division)))
            self.assertEqual((pool.division, pool.changes), (settled(division), len(rings)))

    def test_best_follows_the_division(self):
        pool = Pool(FLAT)
        self.assertIsNone(pool.best())
        pool.division = SESSION
        self.assertEqual(pool.best(), AROUND)
        pool.improve()
        self.assertIsNone(pool.best())
        pool.undo()
        self.assertEqual(pool.best(), AROUND)

    def test_a_pool_does_not_double(self):
        for kind in (Pool, Kept):
            pool = kind(made((0, 1, 0), (0, 1, 0), (1, 0, 0)))
            self.assertRaises(NothingBetter, pool.improve)
            self.assertEqual(pool.changes, 0)
            self.assertFalse(hasattr(pool, "unit"))

    def test_the_longest_of_the_shortest_rings(self):
        pool = Pool(made(*LONG))
        self.assertEqual(pool.improve(), ((0, 1, 2, 3), (0, 1, 2, 3)))
        self.assertEqual(pool.division, made((1, 0, 0, 0), (1, 1, 0, 0), (1, 1, 1, 0), (1, 1, 1, 1)))


class TestUndoing(unittest.TestCase):
    def test_each_kind_of_change(self):
        pool = Pool(SESSION)
        pool.improve()
        pool.division = SESSION
        pool.exchange(AROUND)
        pool.assign_division(FLAT)
        pool.assign_division(SESSION)
        pool(AROUND)
        self.assertEqual(pool.changes, 6)
        self.assertEqual(history(pool), [BETTER, SESSION, FLAT, BETTER, SESSION, BETTER, SESSION])

    def test_changes_go_on_after_an_undo(self):
        pool = Pool(SESSION)
        pool.improve()
        pool.undo()
        self.assertEqual((pool.division, pool.changes), (SESSION, 0))
        pool.division = FLAT
        pool.division = BETTER
        pool.undo()
        pool.division = SESSION
        self.assertEqual(pool.changes, 2)
        self.assertEqual(history(pool), [SESSION, FLAT, SESSION])

    def test_nothing_done(self):
        for kind in KINDS:
            pool = kind(SESSION)
            self.assertRaises(NothingDone, pool.undo)
            pool.division = SESSION
            pool.undo()
            self.assertRaises(NothingDone, pool.undo)
            self.assertRaises(NothingDone, pool.undo)
            self.assertEqual((pool.division, pool.changes), (SESSION, 0))

    def test_refused_calls_are_not_changes(self):
        for kind in KINDS:
            pool = kind(FLAT)
            for call in (pool.improve, pool.undo, lambda: pool(AROUND), lambda: pool.assign_division(None)):
                self.assertRaises(PoolError, call)
            self.assertEqual((pool.division, pool.changes), (FLAT, 0))

    def test_many_changes(self):
        pool = Pool(SESSION)
        for _ in range(1000):
            pool.division = FLAT
            pool.division = SESSION
        self.assertEqual(pool.changes, 2000)
        for left in range(1999, -1, -1):
            pool.undo()
            self.assertEqual((pool.changes, pool.division), (left, FLAT if left % 2 else SESSION))

    def test_pools_are_any_value_elsewhere(self):
        self.assertFalse(SESSION == Pool(SESSION))
        self.assertTrue(Share((0, 1)) != Pool(SESSION))
        self.assertEqual(ring(Pool(SESSION).division), AROUND)


if __name__ == "__main__":
    unittest.main()
