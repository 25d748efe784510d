"""Pools: divisions that are exchanged, improved and assigned, and changes that are taken back."""

from poolshares.checks import is_integer_to
from poolshares.divisions import Division, check_division
from poolshares.errors import NoDivision, NoPerson, NoRing, NothingBetter, NothingDone
from poolshares.orders import is_orderly
from poolshares.rings import exchanged, first_ring, shows_ring


class Trying:
    """For one with statement: a pool is as it was before the block if an exception leaves the block."""

    def __init__(self, pool):
        self.pool = pool
        self.before = pool.course

    def __enter__(self):
        # The pool may have changed since this object was made: only now does the block begin.
        self.before = self.pool.course
        return self

    def __exit__(self, kind, value, trace):
        if kind is not None:
            self.pool.course = self.before
        return False


class Pool:
    """A division that changes by exchanges and assignments, which can be taken back."""

    CALLED = "Pool"

    def __init__(self, division):
        check_division(division)
        # The first division and the one after each change, each with its unit. As tuples do not
        # change, whoever keeps this one can bring back all of it at once.
        self.course = ((division, 1),)

    @property
    def division(self):
        return self.course[-1][0]

    @division.setter
    def division(self, value):
        self.assign_division(value)

    @property
    def changes(self):
        return len(self.course) - 1

    def assign_division(self, division):
        """Puts another division in the place of the present one."""
        check_alike(self.division, division)
        self.change(division, 1)

    def best(self):
        """The ring that improve takes, or None."""
        return self.best_of(self.division)

    def best_of(self, division):
        """What best returns if the pool has this division."""
        return first_ring(division, list(range(division.people)))

    def exchange(self, ring):
        """Makes the exchanges of a ring."""
        self.change(exchanged(self.division, ring), 1)

    def __call__(self, ring):
        self.exchange(ring)

    def improve(self):
        """Makes the exchanges of the best ring, and returns this ring."""
        return self.improve_from(self.division, 1)

    def improve_from(self, division, factor):
        """Improves the present division, given in units that are smaller by this factor."""
        found = self.best_of(division)
        if found is None:
            raise NothingBetter("there is no ring to exchange")
        self.change(exchanged(division, found), factor)
        return found

    def change(self, division, factor):
        unit = self.course[-1][1]
        self.course = (*self.course, (division, unit * factor))

    def undo(self):
        """Takes back the last change."""
        if self.changes == 0:
            raise NothingDone("there is no change to take back")
        self.course = self.course[:-1]

    def trying(self):
        """An object for one with statement, which takes back all changes of its block if an exception leaves it."""
        return Trying(self)

    def __len__(self):
        return len(self.division.shares)

    def __repr__(self):
        return f"{self.CALLED}({self.division.people} people, {self.division.states} states)"


class Kept(Pool):
    """A pool in which the share of one person does not change."""

    CALLED = "Kept"

    def __init__(self, division, person=0):
        super().__init__(division)
        if not is_integer_to(person, division.people - 1):
            raise NoPerson("not a person of this division")
        self.person = person

    def assign_division(self, division):
        """Puts a division with the same share of the person in the place of the present one."""
        check_alike(self.division, division)
        if division[self.person] != self.division[self.person]:
            raise NoDivision("the share of the person would change")
        super().assign_division(division)

    def best(self):
        """The first of the shortest rings in which the person does not occur, or None."""
        return self.best_of(self.division)

    def best_of(self, division):
        others = [person for person in range(division.people) if person != self.person]
        return first_ring(division, others)

    def exchange(self, ring):
        """Makes the exchanges of a ring in which the person does not occur."""
        if shows_ring(self.division, ring) and self.person in ring[1]:
            raise NoRing("the share of the person would change")
        super().exchange(ring)


class Fine(Pool):
    """A pool in which units become smaller where whole ones do not improve anything."""

    CALLED = "Fine"

    def __init__(self, division):
        super().__init__(division)

    @property
    def unit(self):
        return self.course[-1][1]

    def improve(self):
        """Makes the exchanges of the best ring, after a doubling if that is needed and possible."""
        if self.best() is None and is_worth_doubling(self.division):
            return self.improve_from(self.division.doubled(), 2)
        return super().improve()


class KeptFine(Kept, Fine):
    """A pool with smaller units in which nothing but a doubling changes the share of one person."""

    CALLED = "KeptFine"

    def __init__(self, division, person=0):
        super().__init__(division, person)


def check_alike(present, division):
    """NoDivision unless the value is a division with as many people and states as the present one."""
    check_division(division)
    if division.people != present.people or division.states != present.states:
        raise NoDivision("another number of people or states")


def is_worth_doubling(division):
    """Whether the division is not orderly, and has no amount that is too great to be doubled."""
    greatest = max([max(share.amounts) for share in division.shares])
    return greatest <= Division.MOST // 2 and not is_orderly(division)
