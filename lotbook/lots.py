"""Lots: tuples (day, count, cost), in the order in which they came."""

from lotbook.checks import divided
from lotbook.errors import TooFew


def many_of(lots):
    """How many shares the lots have."""
    return sum([count for _, count, _ in lots])


def cost_of(lots):
    """What was paid for all of the lots."""
    return sum([cost for _, _, cost in lots])


def used(lots, count):
    """What so many shares are taken from, and what is left, each a list of lots."""
    if count > many_of(lots):
        raise TooFew("there are not so many shares")
    gone = []
    left = []
    wanted = count
    for day, many, cost in lots:
        going = min(wanted, many)
        going_cost = cost * going // many
        if going > 0:
            gone.append((day, going, going_cost))
        if going < many:
            left.append((day, many - going, cost - going_cost))
        wanted -= going
    return gone, left


def widened(lots, number):
    """The lots with so many times as many shares each."""
    return [(day, count * number, cost) for day, count, cost in lots]


def narrowed(lots, number):
    """The lots with so many times fewer shares each, refused where one is uneven."""
    return [(day, divided(count, number), cost) for day, count, cost in lots]
