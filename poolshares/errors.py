"""The exceptions of this package."""


class PoolError(ValueError):
    """What all exceptions of this package have in common."""


class NoAmounts(PoolError):
    """The value is not a tuple of amounts, or an amount would be too great."""


class NoState(PoolError):
    """The value is not the number of a state."""


class NoNumber(PoolError):
    """The value is not a number of amounts."""


class NoShare(PoolError):
    """The value is not a share, or its number of states does not fit."""


class NoPeople(PoolError):
    """There are too few people, or too many."""


class NoPerson(PoolError):
    """The value is not the number of a person."""


class NoText(PoolError):
    """The value is not the text of a division."""


class NoDivision(PoolError):
    """The value is not a division, or one that does not fit."""


class NoRing(PoolError):
    """The value is not a ring of the division."""


class NothingBetter(PoolError):
    """There is nothing to improve."""


class NothingDone(PoolError):
    """There is nothing to take back."""
