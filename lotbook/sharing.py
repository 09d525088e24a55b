"""Sharing coins out by weights."""

from lotbook.errors import NoDays


def parts(coins, weights):
    """The list of parts that coins are shared out into, one for each weight."""
    whole = sum(weights)
    if whole == 0:
        raise NoDays("there are no weights, or all are nought")
    shared = []
    weighed = 0
    given = 0
    for weight in weights:
        weighed += weight
        # What the first ones get together is rounded, not each part: so no coin is lost.
        reached = coins * weighed // whole
        shared.append(reached - given)
        given = reached
    return shared
