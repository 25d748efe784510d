"""Rings of exchanges that improve a division, and levels that show that nothing does."""

from poolshares.checks import is_integer, is_integer_to, is_pair
from poolshares.divisions import Division, check_division
from poolshares.errors import NoRing
from poolshares.shares import Share

SHORTEST_RING = 2


def ring(division):
    """The first of the shortest rings of a division, or None."""
    check_division(division)
    return first_ring(division, list(range(division.people)))


def shows_ring(division, thing):
    """Whether any value is a ring of the division."""
    check_division(division)
    if not is_pair(thing):
        return False
    states, people = thing
    if not is_numbers(states, division.states) or not is_numbers(people, division.people):
        return False
    if len(states) < SHORTEST_RING or len(states) != len(people) or len(states) != len(set(states)):
        return False
    steps = steps_around(states)
    rises = [rise(division, person, state, second) for person, (state, second) in zip(people, steps)]
    return min(rises) >= 1 and max(rises) >= 2


def exchanged(division, ring):
    """The division after the exchanges of a ring."""
    if not shows_ring(division, ring):
        raise NoRing("not a ring of this division")
    states, people = ring
    rows = [list(share.amounts) for share in division.shares]
    for person, (state, second) in zip(people, steps_around(states)):
        rows[person][state] += 1
        rows[person][second] -= 1
    shares = [Share(tuple(row)) for row in rows]
    return Division(*shares)


def levels(division):
    """The smallest levels of a division that are 0 or more, or None."""
    check_division(division)
    needs = level_needs(division)
    heights = (0,) * division.states
    # The smallest levels are less than the number of states: beyond it, there are none.
    while not meets(heights, needs) and max(heights) < division.states:
        heights = lifted(heights, needs)
    return heights if meets(heights, needs) else None


def shows_levels(division, thing):
    """Whether any value is levels of the division."""
    check_division(division)
    if not isinstance(thing, tuple) or len(thing) != division.states:
        return False
    return all([is_integer(level) for level in thing]) and meets(thing, level_needs(division))


def verdict(division):
    """("ring", ring) if the division can be improved, otherwise ("levels", levels)."""
    found = ring(division)
    if found is None:
        return ("levels", levels(division))
    return ("ring", found)


def shows_verdict(division, thing):
    """Whether any value shows that the division can be improved, or that it cannot."""
    check_division(division)
    if not is_pair(thing):
        return False
    word, reason = thing
    if word == "ring":
        return shows_ring(division, reason)
    return word == "levels" and shows_levels(division, reason)


def rise(division, person, state, second):
    """How much more a person has in the second state than in the first."""
    amounts = division[person].amounts
    return amounts[second] - amounts[state]


def is_numbers(thing, many):
    """Whether any value is a tuple of integers from 0 to below many."""
    return isinstance(thing, tuple) and all([is_integer_to(number, many - 1) for number in thing])


def steps_around(states):
    """Each of the states with the next one, the last with the first."""
    return list(zip(states, states[1:] + states[:1]))


def first_ring(division, people):
    """The first of the shortest rings in which only these people, ascending, occur, or None."""
    risers = first_risers(division, people, 1)
    steep = first_risers(division, people, 2)
    chains = [(state,) for state in range(division.states)]
    while chains:
        for states in chains:
            found = first_people(states, risers, steep)
            if found is not None:
                return (states, found)
        chains = longer_chains(division, chains, risers)
    return None


def first_risers(division, people, least):
    """For each two states, the first of the people who rises by at least this much, or None."""
    states = list(range(division.states))
    return {
        (state, second): first_riser(division, people, least, state, second) for state in states for second in states
    }


def first_riser(division, people, least, state, second):
    for person in people:
        if rise(division, person, state, second) >= least:
            return person
    return None


def longer_chains(division, chains, risers):
    """The chains with one more state each, to which somebody rises; in order if the chains are."""
    return [
        (*states, state)
        for states in chains
        for state in range(division.states)
        if state not in states and risers[states[-1], state] is not None
    ]


def first_people(states, risers, steep):
    """The first people who make a ring of the states, or None."""
    steps = steps_around(states)
    people = [risers[step] for step in steps]
    if None in people:
        return None
    # One person must rise by 2 or more; in the first ring, all others are the first who rise at all.
    found = [
        tuple(people[:at] + [steep[step]] + people[at + 1:]) for at, step in enumerate(steps) if steep[step] is not None
    ]
    return min(found, default=None)


def level_needs(division):
    """(state, second, more) wherever the level of the second must be greater by more, 0 or 1, at least."""
    states = list(range(division.states))
    rises = [
        (state, second, rise(division, person, state, second))
        for person in range(division.people)
        for state in states
        for second in states
    ]
    return [(state, second, min(by, 2) - 1) for state, second, by in rises if by >= 1]


def meets(heights, needs):
    """Whether integers, one for each state, are as great as the needs of levels say."""
    return all([heights[second] >= heights[state] + more for state, second, more in needs])


def lifted(heights, needs):
    """The heights, each lifted as far as the needs ask for over the present ones."""
    return tuple([
        max([height] + [heights[state] + more for state, second, more in needs if second == at])
        for at, height in enumerate(heights)
    ])
