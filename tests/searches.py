"""Drawn divisions, and plain searches over all candidates, which the answers of the program are held against."""

from itertools import permutations, product
from random import Random

from poolshares.divisions import Division
from poolshares.shares import Share

# Nobody makes a ring with fewer than four here; the fourth person alone rises by 2, from state 3 to state 0.
LONG = ((0, 1, 0, 0), (1, 0, 1, 0), (1, 1, 0, 1), (2, 1, 1, 0))


def made(*rows):
    return Division(*[Share(tuple(row)) for row in rows])


def rows_of(division):
    return [share.amounts for share in division.shares]


def drawn_rows(draw, people, states, most):
    return [[draw.randint(0, most) for _ in range(states)] for _ in range(people)]


def orderly_rows(draw, people, states, most):
    """Amounts of which none falls in an order of the states that all people have in common."""
    places = draw.sample(range(states), states)
    rows = [sorted(row) for row in drawn_rows(draw, people, states, most)]
    return [[row[place] for place in places] for row in rows]


def nearly_orderly_rows(draw, people, states, most):
    rows = orderly_rows(draw, people, states, most)
    row = draw.choice(rows)
    at = draw.randrange(states)
    row[at] = row[at] - 1 if row[at] else 1
    return rows


def long_rows(draw, people, states):
    """Amounts without a ring of two, as far as three people and three states allow one without."""
    many = min(people, states)
    rows = [list(row[:many]) for row in LONG[:many - 1]] + [[2] + [1] * (many - 2) + [0]]
    rows += [[0] * many for _ in range(people - many)]
    for _ in range(states - many):
        for row in rows:
            row.append(max(row) + draw.randint(0, 1))
    places = draw.sample(range(states), states)
    rows = [[row[place] for place in places] for row in rows]
    lift = [draw.randint(0, 20) for _ in rows]
    return draw.sample([[amount + more for amount in row] for row, more in zip(rows, lift)], people)


def drawn_divisions(seed, times):
    """Divisions of each number of people and states, with and without rings, short ones and long ones."""
    draw = Random(seed)
    found = []
    for people in (2, 3, 4):
        for states in (2, 3, 4, 5, 6):
            for _ in range(times):
                for most in (1, 2, 30):
                    found.append(made(*drawn_rows(draw, people, states, most)))
                    found.append(made(*nearly_orderly_rows(draw, people, states, most)))
                found.append(made(*orderly_rows(draw, people, states, draw.randint(1, 30))))
                found.append(made(*long_rows(draw, people, states)))
    return found


def rises_along(rows, states, people):
    """By how much each of the people rises to the next state around."""
    following = states[1:] + states[:1]
    return [rows[person][after] - rows[person][before] for person, before, after in zip(people, states, following)]


def plain_rings(division, length, absent=None):
    """All rings of this length, in any order, in which one person is absent."""
    rows = rows_of(division)
    present = [person for person in range(len(rows)) if person != absent]
    found = []
    for states in permutations(range(len(rows[0])), length):
        seats = []
        for at in range(length):
            before, after = states[at], states[(at + 1) % length]
            seats.append([person for person in present if rows[person][after] > rows[person][before]])
        for people in product(*seats):
            if max(rises_along(rows, states, people)) >= 2:
                found.append((states, people))
    return found


def plain_ring(division, absent=None):
    """The first of the shortest rings, or None."""
    for length in range(2, division.states + 1):
        found = plain_rings(division, length, absent)
        if found:
            return min(found)
    return None


def plain_exchanged(division, ring):
    rows = [list(row) for row in rows_of(division)]
    states, people = ring
    for at, person in enumerate(people):
        rows[person][states[at]] += 1
        rows[person][states[at - len(states) + 1]] -= 1
    return made(*rows)


def are_levels(division, levels):
    for row in rows_of(division):
        for first, low in zip(levels, row):
            for second, high in zip(levels, row):
                if (high - low == 1 and second < first) or (high - low >= 2 and second <= first):
                    return False
    return True


def plain_levels(division):
    """The least of all levels, state by state, or None."""
    states = division.states
    found = [levels for levels in product(range(states), repeat=states) if are_levels(division, levels)]
    return tuple(map(min, zip(*found))) if found else None


def is_order(division, states):
    """Whether no amount of any share falls along the states."""
    rows = [[row[state] for state in states] for row in rows_of(division)]
    return all(row == sorted(row) for row in rows)


def plain_opposites(division):
    """All (person, other, state, second) where the person rises and the other falls."""
    rows = rows_of(division)
    places = range(division.states)
    return [
        (person, other, state, second)
        for second in places for state in places for other in range(len(rows)) for person in range(len(rows))
        if rows[person][second] > rows[person][state] and rows[other][second] < rows[other][state]
    ]


def as_calm(before, after):
    """Whether amounts with the same total are at least as calm as those before."""
    before, after = sorted(before), sorted(after)
    return all(sum(after[:k]) >= sum(before[:k]) for k in range(len(before)))


def splits(total, people):
    """All ways to divide a total among people."""
    if people == 1:
        return [(total,)]
    return [(first, *rest) for first in range(total + 1) for rest in splits(total - first, people - 1)]


def can_be_improved(division):
    """Whether a division with the same totals is nowhere less calm, and somewhere calmer, by looking at all."""
    before = rows_of(division)
    totals = [sum(column) for column in zip(*before)]
    for columns in product(*[splits(total, division.people) for total in totals]):
        after = list(zip(*columns))
        if all(sum(old) == sum(new) and as_calm(old, new) for old, new in zip(before, after)):
            if any(sorted(old) != sorted(new) for old, new in zip(before, after)):
                return True
    return False
