"""Values that tests hand in, and references that are written another way than the program."""

from itertools import product

from poolshares.divisions import Division
from poolshares.shares import Share


def odd_values():
    """One value of each kind that callers may hand in wrongly; none is an integer, a tuple or a text."""
    return [
        None,
        True,
        False,
        [],
        [0, 1],
        [(0, 1)],
        {},
        {0: 1, 1: 2},
        {"a": [1, (2, None)]},
        Share((0, 1)),
        Share((0, 1, 2)),
        Division(Share((0, 1)), Share((1, 0))),
        Share,
    ]


def odd_texts():
    return ["", "0", "1", "0 1", "0 1\n", "Share(0 1)", "calmer", "gap"]


def odd_tuples():
    nested = (0, 1)
    for _ in range(20):
        nested = (nested, nested[0])
    return [(), (0,), (None, None), ("0", "1"), ((0, 1), (1, 0)), ([0], [1]), (True, False), nested]


def not_numbers():
    """Values that are not integers."""
    return odd_values() + odd_texts() + odd_tuples() + [slice(0, 1)]


def not_shares():
    """Values that are not shares, among them what shares are made of."""
    division = Division(Share((0, 1)), Share((1, 0)))
    others = [thing for thing in odd_values() if not isinstance(thing, Share)]
    return others + odd_texts() + odd_tuples() + [0, 1, -1, 10 ** 13 - 1, (0, 1), (0, 1, 2), division, PLAIN]


def not_divisions():
    """Values that are not divisions, among them what divisions are made of."""
    others = [thing for thing in odd_values() if not isinstance(thing, Division)]
    shares = (Share((0, 1)), Share((1, 0)))
    return others + odd_texts() + odd_tuples() + [0, 1, shares, list(shares), ((0, 1), (1, 0)), Division, PLAIN]


def not_rings():
    """Values that are not rings of any division."""
    tuples = [((), ()), ((0,), (0,)), ((0, 1), (0,)), ((0, 1),), ((0, 1), (0, 1), (0, 1)), (((0, 1), (0, 1)),)]
    return not_numbers() + tuples + [0, 1, -1, "ring", ("ring", ((0, 1), (0, 1))), ((0, 1), None), (None, (0, 1))]


class Plain:
    """An object that looks like a share or a division, and is none."""

    amounts = (0, 1)
    by_state = (0, 1)
    total = 1
    people = 2
    states = 2
    totals = (1, 1)

    def __len__(self):
        return 2

    def __call__(self, k):
        return (0, 0, 1)[k]


PLAIN = Plain()


def tuples_to(most, states):
    """All tuples of amounts up to most."""
    return list(product(range(most + 1), repeat=states))


def shares_to(most, states):
    return [Share(amounts) for amounts in tuples_to(most, states)]


def next_calmer(amounts):
    """All ascending tuples that one unit, moved to an amount less by two or more, leads to."""
    found = set()
    for giver, given in enumerate(amounts):
        for taker, taken in enumerate(amounts):
            if given >= taken + 2:
                after = list(amounts)
                after[giver], after[taker] = given - 1, taken + 1
                found.add(tuple(sorted(after)))
    return found


def all_calmer(amounts):
    """All ascending tuples that any number of such moves leads to, none included."""
    found = {tuple(sorted(amounts))}
    waiting = list(found)
    while waiting:
        for after in next_calmer(waiting.pop()):
            if after not in found:
                found.add(after)
                waiting.append(after)
    return found
