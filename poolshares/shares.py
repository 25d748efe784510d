"""Shares: what one person gets in each state, and which of two shares is calmer."""

from poolshares.checks import is_integer_to
from poolshares.errors import NoAmounts, NoNumber, NoShare, NoState

FEWEST_STATES = 2
MOST_STATES = 6
MOST_IN_A_STATE = 30


class Share:
    """A tuple of amounts, one for each state. It does not change."""

    def __init__(self, amounts):
        if not is_amounts(amounts):
            raise NoAmounts("a share has a tuple of 2 to 6 integers from 0 to 30")
        self.by_state = amounts

    @property
    def amounts(self):
        return self.by_state

    @property
    def total(self):
        return sum(self.by_state)

    def __call__(self, k):
        """The sum of the k smallest amounts."""
        if not is_integer_to(k, len(self.by_state)):
            raise NoNumber("not a number of amounts of this share")
        return sum(sorted(self.by_state)[:k])

    def __len__(self):
        return len(self.by_state)

    def __getitem__(self, at):
        if not is_integer_to(at, len(self.by_state) - 1):
            raise NoState("not a state of this share")
        return self.by_state[at]

    # Without this, Python would iterate by share[0], share[1] .. and end in NoState.
    def __iter__(self):
        raise TypeError("a share is not iterated over: take its amounts")

    def __add__(self, other):
        check_pair(self, other)
        return Share(tuple([here + there for here, there in zip(self.by_state, other.by_state)]))

    # Python comes here only if the left side is not a share.
    def __radd__(self, other):
        raise NoShare("only a share is added to a share")

    def __eq__(self, other):
        return isinstance(other, Share) and self.by_state == other.by_state

    def __repr__(self):
        return f"Share({spaced(self.by_state)})"


def is_amounts(thing):
    """Whether any value is the amounts of a share."""
    if not isinstance(thing, tuple) or not FEWEST_STATES <= len(thing) <= MOST_STATES:
        return False
    return all([is_integer_to(amount, MOST_IN_A_STATE) for amount in thing])


def spaced(amounts):
    """The amounts as words, with single spaces between them."""
    return " ".join([str(amount) for amount in amounts])


def check_pair(one, other):
    """NoShare unless both are shares with equally many states."""
    if not isinstance(one, Share) or not isinstance(other, Share):
        raise NoShare("not a share")
    if len(one) != len(other):
        raise NoShare("the shares have different numbers of states")


def is_calm(one, other):
    """Whether other is at least as calm as one."""
    check_pair(one, other)
    if one.total != other.total:
        return False
    return all([one(k) <= other(k) for k in range(len(one) + 1)])


def is_calmer(one, other):
    """Whether other is calmer than one."""
    return is_calm(one, other) and not is_calm(other, one)
