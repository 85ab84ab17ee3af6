"""Comparing two fare systems with the same letters."""

from trickfares.errors import NotComparable
from trickfares.machines import machine_rows
from trickfares.pairs import gaining_way, greatest_or_none, pair_net


def net_of(first, second):
    """The net of two systems: a way gains what its letters cost more in the first one."""
    if first.letters != second.letters:
        raise NotComparable()
    return pair_net(first.letters, machine_rows(first), machine_rows(second), (0, 0))


def never_dearer(first, second):
    """True if the first system never costs more than the second one, otherwise False."""
    return most_dearer(first, second) == 0


def dearer(first, second):
    """A history for which the first system costs more, or None if there is none."""
    way = gaining_way(net_of(first, second))
    return None if way is None else "".join([move[0] for move in way])


def most_dearer(first, second):
    """By how much more the first system costs at most, or None if there is no bound."""
    return greatest_or_none(net_of(first, second))
