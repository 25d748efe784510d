"""[51] Fine and KeptFine: units that become smaller."""

import unittest

from poolshares.errors import NoDivision, NoPerson, NoRing, NothingBetter, NothingDone
from poolshares.pools import Fine, Kept, KeptFine, Pool
from searches import drawn_divisions, made, plain_exchanged, plain_opposites, plain_ring, rows_of
from values import not_divisions

AGAINST = made((0, 1), (1, 0))
BETWEEN = made((0, 1), (1, 0), (5, 5))
AROUND = ((0, 1), (0, 1))


def fine_pools(division, person=2):
    """A Fine, and a KeptFine that keeps a person."""
    return [Fine(division), KeptFine(division, person)]


def is_doubled(division, absent=None):
    """Whether improve is to double the division first."""
    fits = max(max(row) for row in rows_of(division)) <= 15
    return plain_ring(division, absent) is None and bool(plain_opposites(division)) and fits


class TestMaking(unittest.TestCase):
    def test_what_they_are(self):
        self.assertIsInstance(Fine(AGAINST), Pool)
        self.assertNotIsInstance(Fine(AGAINST), Kept)
        for kind in (Pool, Kept, Fine, KeptFine):
            self.assertIsInstance(KeptFine(AGAINST), kind)
        self.assertEqual(repr(Fine(AGAINST)), "Fine(2 people, 2 states)")
        self.assertEqual(Fine(division=AGAINST).division, AGAINST)

    def test_the_first_unit(self):
        for division in (AGAINST, made((0, 0), (0, 0)), made((30, 0), (0, 30))):
            for pool in fine_pools(division, 1):
                self.assertEqual((pool.unit, type(pool.unit)), (1, int))

    def test_unit_is_a_property(self):
        for pool in fine_pools(AGAINST, 1):
            with self.assertRaises(AttributeError):
                pool.unit = 2
            self.assertEqual(pool.unit, 1)

    def test_wrong_arguments(self):
        for thing in not_divisions():
            self.assertRaises(NoDivision, Fine, thing)
            self.assertRaises(NoDivision, KeptFine, thing, None)
        for thing in (2, -1, True, False, None, "0", (0,), [0]):
            self.assertRaises(NoPerson, KeptFine, AGAINST, thing)


class TestDoubling(unittest.TestCase):
    def test_once(self):
        pool = Fine(AGAINST)
        self.assertIsNone(pool.best())
        self.assertEqual(pool.improve(), AROUND)
        self.assertEqual((pool.division, pool.unit, pool.changes), (made((1, 1), (1, 1)), 2, 1))
        self.assertRaises(NothingBetter, pool.improve)
        self.assertEqual((pool.division, pool.unit, pool.changes), (made((1, 1), (1, 1)), 2, 1))

    def test_several_times(self):
        pool = Fine(made((0, 0, 1), (1, 1, 0)))
        units = []
        while not units or pool.best() is not None or is_doubled(pool.division):
            pool.improve()
            units.append(pool.unit)
        self.assertEqual(units, [2, 4, 8, 16, 32])
        self.assertEqual(pool.changes, 5)
        self.assertRaises(NothingBetter, pool.improve)
        for unit in (16, 8, 4, 2, 1):
            pool.undo()
            self.assertEqual(pool.unit, unit)
        self.assertEqual((pool.division, pool.changes), (made((0, 0, 1), (1, 1, 0)), 0))
        self.assertRaises(NothingDone, pool.undo)

    def test_several_times_with_other_exchanges_between(self):
        pool = Fine(made((0, 1, 0), (0, 0, 1), (1, 0, 0)))
        units = [pool.unit]
        while pool.best() is not None or is_doubled(pool.division):
            before, doubles = pool.division, pool.best() is None
            around = pool.improve()
            start = before.doubled() if doubles else before
            self.assertEqual(around, plain_ring(start))
            self.assertEqual(pool.division, plain_exchanged(start, around))
            units.append(pool.unit)
            self.assertEqual(units[-1], units[-2] * (2 if doubles else 1))
        self.assertEqual((len(units), units[-1], pool.changes), (13, 64, 12))
        for unit in units[-2::-1]:
            pool.undo()
            self.assertEqual(pool.unit, unit)

    def test_the_first_ring_of_the_doubled_division(self):
        for pool in fine_pools(BETWEEN):
            self.assertEqual(pool.improve(), AROUND)
            self.assertEqual((pool.division, pool.unit, pool.changes), (made((1, 1), (1, 1), (10, 10)), 2, 1))

    def test_no_doubling_where_a_ring_is_there(self):
        for pool in fine_pools(made((0, 3), (3, 0), (5, 5))):
            self.assertEqual(pool.improve(), AROUND)
            self.assertEqual((pool.division, pool.unit, pool.changes), (made((1, 2), (2, 1), (5, 5)), 1, 1))
            self.assertEqual(pool.improve(), AROUND)
            self.assertEqual((pool.division, pool.unit, pool.changes), (made((3, 3), (3, 3), (10, 10)), 2, 2))

    def test_no_doubling_of_an_orderly_division(self):
        for division in (made((0, 1), (0, 5), (3, 3)), made((0, 0), (0, 0), (0, 0)), made((9, 9), (7, 0), (15, 0))):
            for pool in fine_pools(division):
                self.assertRaises(NothingBetter, pool.improve)
                self.assertEqual((pool.division, pool.unit, pool.changes), (division, 1, 0))

    def test_amounts_of_15_and_16(self):
        for pool in fine_pools(made((15, 14), (14, 15), (15, 15))):
            self.assertEqual(pool.improve(), ((0, 1), (1, 0)))
            self.assertEqual((pool.division, pool.unit), (made((29, 29), (29, 29), (30, 30)), 2))
        for division in (
            made((16, 15), (15, 16), (0, 0)), made((0, 1), (1, 0), (16, 16)), made((0, 1), (1, 0), (30, 30)),
            made((15, 16), (1, 0), (0, 0)), made((30, 29), (29, 30), (30, 30)),
        ):
            for pool in fine_pools(division):
                self.assertRaises(NothingBetter, pool.improve)
                self.assertEqual((pool.division, pool.unit, pool.changes), (division, 1, 0))

    def test_best_never_doubles(self):
        for division in drawn_divisions(100, 1):
            for pool in [Fine(division)] + [KeptFine(division, person) for person in range(division.people)]:
                pool.best()
                self.assertEqual((pool.division, pool.unit, pool.changes), (division, 1, 0))
            self.assertEqual(Fine(division).best(), plain_ring(division))

    def test_drawn_divisions(self):
        for division in drawn_divisions(101, 1):
            self.check_improve(Fine(division), None)
            for person in range(division.people):
                self.check_improve(KeptFine(division, person), person)

    def check_improve(self, pool, absent):
        for _ in range(6):
            before, unit, changes = pool.division, pool.unit, pool.changes
            doubles = is_doubled(before, absent)
            start = before.doubled() if doubles else before
            around = plain_ring(start, absent)
            if around is None:
                self.assertRaises(NothingBetter, pool.improve)
                self.assertEqual((pool.division, pool.unit, pool.changes), (before, unit, changes))
                return
            self.assertEqual(pool.improve(), around)
            self.assertEqual(pool.division, plain_exchanged(start, around))
            self.assertEqual((pool.unit, pool.changes), (unit * 2 if doubles else unit, changes + 1))


class TestChangesAndUnits(unittest.TestCase):
    def test_undo_behind_a_doubling(self):
        for pool in fine_pools(BETWEEN):
            pool.improve()
            pool.undo()
            self.assertEqual((pool.division, pool.unit, pool.changes), (BETWEEN, 1, 0))
            self.assertRaises(NothingDone, pool.undo)
            pool.improve()
            self.assertEqual((pool.unit, pool.changes), (2, 1))

    def test_an_assignment_leaves_the_unit(self):
        doubled = made((0, 1), (1, 0), (10, 10))
        for pool in fine_pools(BETWEEN):
            pool.assign_division(BETWEEN)
            self.assertEqual(pool.unit, 1)
            pool.improve()
            pool.division = doubled
            self.assertEqual((pool.division, pool.unit, pool.changes), (doubled, 2, 3))
            pool.improve()
            self.assertEqual((pool.division, pool.unit, pool.changes), (made((1, 1), (1, 1), (20, 20)), 4, 4))
            units = []
            while pool.changes:
                pool.undo()
                units.append(pool.unit)
            self.assertEqual(units, [2, 2, 1, 1])
            self.assertEqual(pool.division, BETWEEN)

    def test_units_without_end(self):
        pool = Fine(AGAINST)
        for times in range(1, 71):
            pool.improve()
            self.assertEqual((pool.unit, pool.changes), (2 ** times, 2 * times - 1))
            pool.division = AGAINST
        self.assertEqual(pool.unit, 2 ** 70)

    def test_an_exchange_leaves_the_unit(self):
        pool = Fine(AGAINST)
        pool.improve()
        pool.division = made((0, 4), (4, 0))
        pool(AROUND)
        pool.exchange(AROUND)
        self.assertEqual((pool.division, pool.unit, pool.changes), (made((2, 2), (2, 2)), 2, 4))

    def test_exchange_never_doubles(self):
        for pool in fine_pools(BETWEEN):
            self.assertRaises(NoRing, pool.exchange, AROUND)
            self.assertRaises(NoRing, pool, AROUND)
            self.assertEqual((pool.division, pool.unit, pool.changes), (BETWEEN, 1, 0))


class TestKeptFine(unittest.TestCase):
    def test_the_doubled_share_of_the_person(self):
        pool = KeptFine(made((0, 1), (0, 1), (1, 0)))
        self.assertIsNone(pool.best())
        self.assertEqual(pool.improve(), ((0, 1), (1, 2)))
        self.assertEqual((pool.division, pool.unit), (made((0, 2), (1, 1), (1, 1)), 2))

    def test_assignments_after_a_doubling(self):
        pool = KeptFine(made((0, 1), (0, 1), (1, 0)))
        pool.improve()
        self.assertRaises(NoDivision, pool.assign_division, made((0, 1), (0, 1), (1, 0)))
        pool.division = made((0, 2), (9, 9), (9, 9))
        pool.undo()
        pool.undo()
        self.assertRaises(NoDivision, pool.assign_division, made((0, 2), (9, 9), (9, 9)))
        pool.division = made((0, 1), (9, 9), (9, 9))
        self.assertEqual((pool.unit, pool.changes), (1, 1))

    def test_no_ring_in_the_doubled_division(self):
        # Only person 0 is opposite to others: the whole division is not orderly, but the others have no ring.
        for rows in (((0, 1), (1, 0)), ((0, 1), (1, 0), (1, 0)), ((0, 9), (1, 0), (7, 7), (15, 14))):
            pool = KeptFine(made(*rows))
            self.assertRaises(NothingBetter, pool.improve)
            self.assertEqual((pool.division, pool.unit, pool.changes), (made(*rows), 1, 0))
            self.assertIsNotNone(Fine(made(*rows)).improve())

    def test_whether_it_doubles_depends_on_the_whole_division(self):
        rows = ((0, 16), (0, 1), (1, 0))
        self.assertRaises(NothingBetter, KeptFine(made(*rows)).improve)
        self.assertEqual(KeptFine(made((0, 15), *rows[1:])).improve(), ((0, 1), (1, 2)))

    def test_several_times(self):
        pool = KeptFine(made((0, 0, 1), (1, 1, 0), (0, 0, 0)), 2)
        units = [pool.improve() and pool.unit for _ in range(5)]
        self.assertEqual((units, pool.changes), ([2, 4, 8, 16, 32], 5))
        self.assertEqual(pool.division[2].amounts, (0, 0, 0))
        for unit in (16, 8, 4, 2, 1):
            pool.undo()
            self.assertEqual(pool.unit, unit)

    def test_several_times_until_the_share_of_the_person_is_too_great(self):
        pool = KeptFine(made((0, 0, 1), (1, 1, 0), (3, 3, 3)), 2)
        units = [pool.improve() and pool.unit for _ in range(3)]
        self.assertEqual((units, pool.division[2].amounts), ([2, 4, 8], (24, 24, 24)))
        before = pool.division
        self.assertRaises(NothingBetter, pool.improve)
        self.assertEqual((pool.division, pool.unit, pool.changes), (before, 8, 3))

    def test_the_person_in_a_ring(self):
        pool = KeptFine(made((0, 4), (4, 0), (0, 3)), 1)
        self.assertRaises(NoRing, pool, ((0, 1), (0, 1)))
        self.assertRaises(NothingBetter, pool.improve)
        self.assertEqual((pool.unit, pool.changes), (1, 0))


if __name__ == "__main__":
    unittest.main()
