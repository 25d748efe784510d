"""[50] and [51] Drawn runs of all kinds of calls, held against a pool that is written down plainly."""

import unittest
from random import Random

from poolshares.errors import NoDivision, NoRing, NothingBetter, NothingDone
from poolshares.pools import Fine, Kept, KeptFine, Pool
from searches import drawn_rows, made, plain_exchanged, plain_opposites, plain_ring, plain_rings, rows_of


class Broken(Exception):
    """What leaves a block here."""


class PlainPool:
    """What a pool has to do, with a list of all its divisions and units; a refused call returns the exception."""

    def __init__(self, division, absent, fine):
        self.past = [(division, 1)]
        self.absent = absent
        self.fine = fine

    def assign(self, thing):
        now, unit = self.past[-1]
        if (thing.people, thing.states) != (now.people, now.states):
            return NoDivision
        if self.absent is not None and thing[self.absent] != now[self.absent]:
            return NoDivision
        self.past.append((thing, unit))
        return None

    def exchange(self, around):
        now, unit = self.past[-1]
        if around not in plain_rings(now, len(around[0]), self.absent):
            return NoRing
        self.past.append((plain_exchanged(now, around), unit))
        return None

    def improve(self):
        now, unit = self.past[-1]
        fits = max(max(row) for row in rows_of(now)) <= 15
        if self.fine and not plain_ring(now, self.absent) and plain_opposites(now) and fits:
            now, unit = now.doubled(), unit * 2
        around = plain_ring(now, self.absent)
        if around is None:
            return NothingBetter
        self.past.append((plain_exchanged(now, around), unit))
        return around

    def undo(self):
        if len(self.past) == 1:
            return NothingDone
        self.past.pop()
        return None


class TestRuns(unittest.TestCase):
    def test_runs(self):
        draw = Random(110)
        for kind in (Pool, Kept, Fine, KeptFine):
            for people in (2, 3, 4):
                for states in (2, 3, 4, 6):
                    for most in (1, 3, 16):
                        self.run_once(draw, kind, made(*drawn_rows(draw, people, states, most)))

    def run_once(self, draw, kind, division):
        absent = draw.randrange(division.people) if kind in (Kept, KeptFine) else None
        pool = kind(division) if absent is None else kind(division, absent)
        plain = PlainPool(division, absent, kind in (Fine, KeptFine))
        self.go_on(draw, pool, plain, 3)
        while plain.past[1:]:
            self.check_call(pool.undo, plain.undo())
            self.check_state(pool, plain)
        self.check_call(pool.undo, NothingDone)

    def go_on(self, draw, pool, plain, depth):
        for _ in range(draw.randint(0, 6)):
            choice = draw.randrange(6)
            if choice == 0 and depth:
                self.go_into_a_block(draw, pool, plain, depth)
            elif choice <= 2:
                self.check_call(pool.improve, plain.improve())
            elif choice == 3:
                self.check_call(pool.undo, plain.undo())
            elif choice == 4:
                around = self.drawn_ring(draw, pool.division)
                self.check_call(lambda: draw.choice((pool, pool.exchange))(around), plain.exchange(around))
            else:
                division = self.drawn_division(draw, plain)
                self.check_call(lambda: pool.assign_division(division), plain.assign(division))
            self.check_state(pool, plain)

    def go_into_a_block(self, draw, pool, plain, depth):
        before = list(plain.past)
        breaks = draw.random() < 0.5
        try:
            with pool.trying():
                self.go_on(draw, pool, plain, depth - 1)
                if breaks:
                    raise Broken()
        except Broken:
            plain.past = before

    def drawn_ring(self, draw, division):
        rings = [around for length in (2, 3) if length <= division.states for around in plain_rings(division, length)]
        rings = rings[:10] + [((0, 1), (1, 0)), ((1, 0), (1, 0)), ((0, 0), (0, 1))]
        return draw.choice(rings)

    def drawn_division(self, draw, plain):
        now = plain.past[-1][0]
        rows = drawn_rows(draw, now.people, now.states, draw.choice((1, 3, 16)))
        if plain.absent is not None and draw.random() < 0.7:
            rows[plain.absent] = now[plain.absent].amounts
        return draw.choice((now, made(*rows), made(*rows), made((0, 1), *[(1, 0)] * (now.people - 1))))

    def check_call(self, call, expected):
        if isinstance(expected, type):
            self.assertRaises(expected, call)
        else:
            self.assertEqual(call(), expected)

    def check_state(self, pool, plain):
        division, unit = plain.past[-1]
        self.assertEqual((pool.division, pool.changes), (division, len(plain.past) - 1))
        self.assertEqual(pool.best(), plain_ring(division, plain.absent))
        if plain.fine:
            self.assertEqual(pool.unit, unit)
        else:
            self.assertEqual(unit, 1)


if __name__ == "__main__":
    unittest.main()
