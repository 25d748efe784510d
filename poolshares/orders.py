"""Orders: whether the amounts of all people rise together."""

from poolshares.divisions import check_division
from poolshares.rings import rise


def order(division):
    """("order", states) if no amount falls in this order, otherwise ("opposite", ..) for two people and states."""
    check_division(division)
    found = opposites(division)
    # If no two people are opposite anywhere, a state with a greater total has no smaller amount.
    if found:
        return ("opposite", found[0])
    return ("order", by_totals(division))


def is_orderly(division):
    """Whether the states have an order in which no amount of any share falls."""
    return order(division)[0] == "order"


def opposites(division):
    """All (person, other, state, second) where the person rises and the other falls, in order."""
    people = list(range(division.people))
    states = list(range(division.states))
    return [
        (person, other, state, second)
        for person in people
        for other in people
        for state in states
        for second in states
        if rise(division, person, state, second) >= 1 and rise(division, other, second, state) >= 1
    ]


def by_totals(division):
    """The states by ascending totals, those with equal totals by ascending numbers."""
    pairs = sorted([(total, state) for state, total in enumerate(division.totals)])
    return tuple([state for total, state in pairs])
