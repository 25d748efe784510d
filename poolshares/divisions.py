"""Divisions: the shares of several people in the same states."""

from poolshares.checks import is_integer_to
from poolshares.errors import NoAmounts, NoDivision, NoPeople, NoPerson, NoShare, NoText
from poolshares.shares import Share, check_pair, spaced

FEWEST_PEOPLE = 2
MOST_PEOPLE = 4


class Division:
    """A share for each person, all with equally many states. It does not change."""

    MOST = 30

    def __init__(self, *shares):
        for share in shares:
            check_pair(shares[0], share)
        if not FEWEST_PEOPLE <= len(shares) <= MOST_PEOPLE:
            raise NoPeople("a division has 2 to 4 shares")
        self.by_person = shares

    @classmethod
    def read(cls, text):
        """The division with exactly this text."""
        if not isinstance(text, str) or not text.endswith("\n"):
            raise NoText("not a text of whole lines")
        try:
            shares = [read_share(line) for line in text[:-1].split("\n")]
            return cls(*shares)
        except (NoAmounts, NoShare, NoPeople):
            raise NoText("the lines do not make a division") from None

    @property
    def shares(self):
        return self.by_person

    @property
    def people(self):
        return len(self.by_person)

    @property
    def states(self):
        return len(self.by_person[0])

    @property
    def totals(self):
        rows = [share.amounts for share in self.by_person]
        return tuple([sum(column) for column in zip(*rows)])

    def __getitem__(self, at):
        if not is_integer_to(at, len(self.by_person) - 1):
            raise NoPerson("not a person of this division")
        return self.by_person[at]

    # Without this, Python would iterate by division[0], division[1] .. and end in NoPerson.
    def __iter__(self):
        raise TypeError("a division is not iterated over: take its shares")

    def doubled(self):
        """The division with twice the amounts."""
        # The sum of shares raises the NoAmounts that is due for an amount above 15.
        shares = [share + share for share in self.by_person]
        return Division(*shares)

    def text(self):
        """A line for each person, with the amounts in the order of the states."""
        return "".join([f"{spaced(share.amounts)}\n" for share in self.by_person])

    def __eq__(self, other):
        return isinstance(other, Division) and self.by_person == other.by_person

    def __repr__(self):
        return f"Division({self.people} people, {self.states} states)"


def check_division(thing):
    """NoDivision unless the value is a division."""
    if not isinstance(thing, Division):
        raise NoDivision("not a division")


def read_share(line):
    """The share whose amounts stand in a line."""
    return Share(tuple([read_amount(word) for word in line.split(" ")]))


def read_amount(word):
    """The amount that is written exactly so."""
    # int(word) would also take signs, blanks, leading zeros and digits of other scripts.
    for amount in range(Division.MOST + 1):
        if word == str(amount):
            return amount
    raise NoText("not an amount")
