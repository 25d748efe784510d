"""Paths: how a share becomes a calmer one by single units, or where this fails."""

from poolshares.checks import is_integer_to, is_pair
from poolshares.shares import check_pair, is_amounts, is_calm


def path(one, other):
    """("calmer", steps) if other is at least as calm as one, otherwise ("gap", k)."""
    if is_calm(one, other):
        return ("calmer", steps_between(ascending(one), ascending(other)))
    return ("gap", smallest_gap(one, other))


def shows_path(one, other, thing):
    """Whether any value shows that other is at least as calm as one, or that it is not."""
    check_pair(one, other)
    if not is_pair(thing):
        return False
    word, reason = thing
    if word == "calmer":
        return is_steps(one, other, reason)
    return word == "gap" and is_integer_to(reason, len(one)) and is_gap(one, other, reason)


def ascending(share):
    """The amounts of a share in ascending order."""
    return tuple(sorted(share.amounts))


def moved(amounts, low, high):
    """The amounts, ascending again, after one unit is moved from place high to place low."""
    after = list(amounts)
    after[high] -= 1
    after[low] += 1
    return tuple(sorted(after))


def steps_between(start, goal):
    """The steps of path, for ascending amounts where the goal is at least as calm as the start."""
    steps = [start]
    while steps[-1] != goal:
        steps.append(step_towards(steps[-1], goal))
    return tuple(steps)


def step_towards(now, goal):
    """The amounts one step after now, which differ from the goal."""
    places = list(range(len(now)))
    # The goal is at least as calm, so it has more at the first place of difference,
    # and, as the totals agree, less at a place behind it.
    low = [at for at in places if now[at] != goal[at]][0]
    high = [at for at in places if at > low and now[at] > goal[at]][0]
    return moved(now, low, high)


def is_gap(one, other, k):
    """Whether k, from 0 to the number of states, shows that other is not at least as calm."""
    return one(k) > other(k) or (k == len(one) and one.total != other.total)


def smallest_gap(one, other):
    """The smallest gap, where other is not at least as calm as one."""
    return [k for k in range(len(one) + 1) if is_gap(one, other, k)][0]


def is_steps(one, other, thing):
    """Whether any value is steps from the ascending amounts of one to those of other."""
    if not isinstance(thing, tuple) or len(thing) == 0:
        return False
    # This comes before all comparisons: a bool would be equal to an integer there.
    if not all([is_amounts(step) for step in thing]):
        return False
    if thing[0] != ascending(one) or thing[-1] != ascending(other):
        return False
    return all([is_move(thing[at], thing[at + 1]) for at in range(len(thing) - 1)])


def is_move(before, after):
    """Whether after arises from before by one unit moved to an amount less by two or more."""
    places = list(range(len(before)))
    return after in [
        moved(before, low, high) for low in places for high in places if before[high] - before[low] >= 2
    ]
