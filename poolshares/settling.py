"""Settling: one ring after another, until a division cannot be improved."""

from poolshares.rings import exchanged, ring


def settle(division):
    """The rings that are exchanged one after another."""
    now = division
    found = ring(now)
    while found is not None:
        yield found
        now = exchanged(now, found)
        found = ring(now)


def settled(division):
    """The division after all these exchanges."""
    now = division
    for found in settle(division):
        now = exchanged(now, found)
    return now
