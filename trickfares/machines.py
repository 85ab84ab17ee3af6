"""The machines of fare systems: their states, joined where they are alike."""

from trickfares.errors import NotComparable
from trickfares.fares import MOST_STATES, reached


def states(system):
    """The states that some history leads to, in the order of their numbers."""
    return reached(system, MOST_STATES)


def machine_rows(system):
    """For each state in order, the tuple of the tuples (next state, cost) for the letters in order."""
    found = states(system)
    numbers = {state: number for number, state in enumerate(found)}
    rows = []
    for state in found:
        steps = [system.step(state, letter) for letter in system.letters]
        rows.append(tuple([(numbers[after], cost) for after, cost in steps]))
    return rows


def _with_groups(row, groups):
    """A row of a machine, with the groups of the next states in place of these."""
    return tuple([(groups[after], cost) for after, cost in row])


def _split(rows, groups):
    """The groups, split where the costs or the groups of the next states differ."""
    numbers = {}
    finer = []
    for group, row in zip(groups, rows):
        key = (group, _with_groups(row, groups))
        if key not in numbers:
            numbers[key] = len(numbers)
        finer.append(numbers[key])
    return finer


def _joined(rows):
    """The number of the group of alike states for each state.

    Groups are numbered by their first states. States are numbered by the shortest histories to them, and of
    equally long ones by the first, so that is the order in which the joined states are reached, too.
    """
    groups = [0] * len(rows)
    finer = _split(rows, groups)
    while max(finer) > max(groups):
        groups = finer
        finer = _split(rows, groups)
    return groups


def smallest(system):
    """The smallest machine of a system, as a list with a row for each of its states."""
    rows = machine_rows(system)
    groups = _joined(rows)
    machine = []
    for group, row in zip(groups, rows):
        if group == len(machine):
            machine.append(_with_groups(row, groups))
    return machine


def are_alike(first, second):
    """True if each history costs the same in both systems, otherwise False."""
    if first.letters != second.letters:
        raise NotComparable()
    return smallest(first) == smallest(second)
