"""[50] trying(): blocks that end with and without an exception, also one within another."""

import unittest

from poolshares.errors import NoDivision, NoPerson, NoRing, NothingBetter, NothingDone
from poolshares.pools import Fine, Kept, KeptFine, Pool
from searches import made

# Each kind of pool can improve this, by a ring without person 0.
START = made((5, 5), (0, 4), (4, 0))
AROUND = ((0, 1), (1, 2))
ONCE = made((5, 5), (1, 3), (3, 1))
TWICE = made((5, 5), (2, 2), (2, 2))
OTHER = made((5, 5), (30, 0), (16, 15))
KINDS = (Pool, Kept, Fine, KeptFine)


class Broken(Exception):
    """What leaves a block here."""


class TestTrying(unittest.TestCase):
    def test_a_block_without_an_exception(self):
        for kind in KINDS:
            pool = kind(START)
            with pool.trying():
                pool.improve()
                pool.improve()
            self.assertEqual((pool.division, pool.changes), (TWICE, 2))
            pool.undo()
            self.assertEqual((pool.division, pool.changes), (ONCE, 1))

    def test_a_block_with_an_exception(self):
        for kind in KINDS:
            pool = kind(START)
            pool.improve()
            with self.assertRaises(Broken):
                with pool.trying():
                    pool.improve()
                    pool.division = OTHER
                    self.assertEqual((pool.division, pool.changes), (OTHER, 3))
                    raise Broken()
            self.assertEqual((pool.division, pool.changes), (ONCE, 1))
            pool.undo()
            self.assertEqual((pool.division, pool.changes), (START, 0))

    def test_changes_that_the_block_took_back(self):
        for kind in KINDS:
            pool = kind(START)
            pool.improve()
            pool.division = OTHER
            with self.assertRaises(Broken):
                with pool.trying():
                    pool.undo()
                    pool.undo()
                    pool.division = START
                    raise Broken()
            self.check_course(pool, [OTHER, ONCE, START])

    def test_changes_that_the_block_took_back_without_an_exception(self):
        for kind in KINDS:
            pool = kind(START)
            pool.improve()
            pool.division = OTHER
            with pool.trying():
                pool.undo()
                pool.improve()
            self.check_course(pool, [TWICE, ONCE, START])

    def check_course(self, pool, divisions):
        self.assertEqual(pool.changes, len(divisions) - 1)
        self.assertEqual(pool.division, divisions[0])
        for division in divisions[1:]:
            pool.undo()
            self.assertEqual(pool.division, division)
        self.assertRaises(NothingDone, pool.undo)

    def test_the_exception_itself_leaves_the_block(self):
        for error in (Broken("x"), KeyError(1), NoRing("y"), KeyboardInterrupt(), SystemExit(0), GeneratorExit()):
            pool = Pool(START)
            try:
                with pool.trying():
                    pool.improve()
                    raise error
            except BaseException as caught:
                self.assertIs(caught, error)
            else:
                self.fail("the exception was suppressed")
            self.assertEqual((pool.division, pool.changes), (START, 0))

    def test_exceptions_of_the_package(self):
        for error, wrong in (
            (NoDivision, lambda pool: pool.assign_division(None)), (NoRing, lambda pool: pool(None)),
            (NothingDone, lambda pool: [pool.undo() for _ in range(9)]), (NoPerson, lambda pool: Kept(START, 3)),
            (NothingBetter, lambda pool: [pool.improve() for _ in range(99)]),
        ):
            for kind in KINDS:
                pool = kind(START)
                pool.division = OTHER
                with self.assertRaises(error):
                    with pool.trying():
                        pool.division = START
                        wrong(pool)
                self.check_course(pool, [OTHER, START])

    def test_an_exception_that_does_not_leave_the_block(self):
        pool = Pool(START)
        with pool.trying():
            pool.improve()
            try:
                raise Broken()
            except Broken:
                pool.improve()
        self.check_course(pool, [TWICE, ONCE, START])

    def test_blocks_that_are_left_otherwise(self):
        pool = Pool(START)
        for _ in range(3):
            with pool.trying():
                pool.improve()
                break
        self.assertEqual((pool.division, pool.changes), (ONCE, 1))
        for _ in range(1):
            with pool.trying():
                pool.improve()
                continue
        self.assertEqual(returned_from(pool), 3)
        self.check_course(pool, [OTHER, TWICE, ONCE, START])

    def test_an_empty_block(self):
        pool = Pool(START)
        with pool.trying():
            pass
        self.assertEqual((pool.division, pool.changes), (START, 0))
        with self.assertRaises(Broken):
            with pool.trying():
                raise Broken()
        self.assertEqual((pool.division, pool.changes), (START, 0))

    def test_the_block_begins_later_than_the_object(self):
        pool = Pool(START)
        attempt = pool.trying()
        pool.improve()
        with self.assertRaises(Broken):
            with attempt:
                pool.improve()
                raise Broken()
        self.check_course(pool, [ONCE, START])

    def test_trying_alone_changes_nothing(self):
        pool = Pool(START)
        attempt = pool.trying()
        self.assertTrue(hasattr(attempt, "__enter__") and hasattr(attempt, "__exit__"))
        self.assertEqual((pool.division, pool.changes), (START, 0))

    def test_the_pool_goes_on_after_the_block(self):
        pool = Pool(START)
        with self.assertRaises(Broken):
            with pool.trying():
                pool.division = OTHER
                raise Broken()
        self.assertEqual(pool.improve(), AROUND)
        with pool.trying():
            pool.improve()
        self.check_course(pool, [TWICE, ONCE, START])

    def test_two_pools(self):
        one, other = Pool(START), Pool(START)
        with self.assertRaises(Broken):
            with one.trying():
                one.improve()
                other.improve()
                raise Broken()
        self.assertEqual((one.division, one.changes), (START, 0))
        self.assertEqual((other.division, other.changes), (ONCE, 1))


class TestBlocksWithinBlocks(unittest.TestCase):
    def test_all_ways_to_end(self):
        for kind in KINDS:
            for inner in (False, True):
                for outer in (False, True):
                    with self.subTest((kind, inner, outer)):
                        self.check(kind(START), inner, outer)

    def check(self, pool, inner, outer):
        """Leaves the inner and the outer block with an exception where this is asked for."""
        try:
            with pool.trying():
                pool.improve()
                try:
                    with pool.trying():
                        pool.undo()
                        pool.division = OTHER
                        pool.division = START
                        if inner:
                            raise Broken()
                except Broken:
                    self.assertEqual((pool.division, pool.changes), (ONCE, 1))
                else:
                    self.assertEqual((pool.division, pool.changes), (START, 2))
                pool.improve()
                if outer:
                    raise Broken()
        except Broken:
            expected = (START, 0)
        else:
            expected = (TWICE, 2) if inner else (ONCE, 3)
        self.assertEqual((pool.division, pool.changes), expected)

    def test_one_exception_through_both(self):
        pool = Pool(START)
        pool.division = OTHER
        with self.assertRaises(Broken):
            with pool.trying(), pool.trying():
                pool.undo()
                raise Broken()
        self.assertEqual((pool.division, pool.changes), (OTHER, 1))
        pool.undo()
        self.assertEqual((pool.division, pool.changes), (START, 0))

    def test_deep(self):
        pool = Pool(START)
        with self.assertRaises(Broken):
            self.go_down(pool, 50)
        self.assertEqual((pool.division, pool.changes), (START, 0))

    def go_down(self, pool, depth):
        if depth == 0:
            raise Broken()
        changes = pool.changes
        try:
            with pool.trying():
                pool.division = OTHER
                self.go_down(pool, depth - 1)
        finally:
            self.assertEqual(pool.changes, changes)


class TestUnits(unittest.TestCase):
    def test_a_doubling_in_the_block(self):
        start = made((0, 1), (1, 0), (0, 0))
        for pool in (Fine(start), KeptFine(start, 2)):
            with self.assertRaises(Broken):
                with pool.trying():
                    pool.improve()
                    self.assertEqual((pool.unit, pool.changes), (2, 1))
                    raise Broken()
            self.assertEqual((pool.division, pool.unit, pool.changes), (start, 1, 0))
            with pool.trying():
                pool.improve()
            self.assertEqual((pool.division, pool.unit), (made((1, 1), (1, 1), (0, 0)), 2))

    def test_a_doubling_that_the_block_took_back(self):
        pool = Fine(made((0, 1), (1, 0)))
        pool.improve()
        with self.assertRaises(Broken):
            with pool.trying():
                pool.undo()
                self.assertEqual(pool.unit, 1)
                raise Broken()
        self.assertEqual((pool.division, pool.unit, pool.changes), (made((1, 1), (1, 1)), 2, 1))
        pool.undo()
        self.assertEqual((pool.division, pool.unit, pool.changes), (made((0, 1), (1, 0)), 1, 0))


def returned_from(pool):
    with pool.trying():
        pool.division = OTHER
        return pool.changes


if __name__ == "__main__":
    unittest.main()
