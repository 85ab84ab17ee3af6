"""Nets of moves with gains: greatest gains with their evidence, and the checks of such evidence."""

from trickfares.errors import Unbounded


class Net:
    """A net with a start, a dict from its nodes to their moves (label, gain, next node), and its ends."""

    def __init__(self, start, moves, ends):
        self.start = start
        self.moves = {node: list(moves[node]) for node in moves}
        self.ends = list(ends)


def end_of(node, way):
    """The last node of a way from the node."""
    return way[-1][2] if way else node


def gain_of(way):
    """The gain of a way."""
    return sum([move[1] for move in way])


def _better_moves(net, worths):
    """For each node that a move gives more than its worth so far, the move that gives it the most."""
    better = {}
    for node in net.moves:
        best = worths.get(node)
        for move in net.moves[node]:
            if move[2] in worths and (best is None or move[1] + worths[move[2]] > best):
                best = move[1] + worths[move[2]]
                better[node] = move
    return better


def _trip_from(node, choices):
    """The round trip along the chosen moves from a node that lies on it."""
    trip = [choices[node]]
    while trip[-1][2] != node:
        trip.append(choices[trip[-1][2]])
    return trip


def _round_trip(choices):
    """A round trip along the chosen moves, or the empty list if there is none."""
    seen = {}
    for first in choices:
        node = first
        while node in choices and node not in seen:
            seen[node] = first
            node = choices[node][2]
        if node in choices and seen[node] == first:
            return _trip_from(node, choices)
    return []


def _way_to(net, node, goals):
    """A way from a node to one of the goals, which can be reached from it."""
    ways = {node: []}
    queue = [node]
    at = 0
    while node not in goals:
        for move in net.moves[node]:
            if move[2] not in ways:
                ways[move[2]] = ways[node] + [move]
                queue.append(move[2])
        at += 1
        node = queue[at]
    return ways[node]


def _solved(net):
    """The least potentials, and for each node that a move gives its potential such a move.

    A move is chosen only if it gives its node more than the node had. So a round trip along chosen moves has
    a positive gain, and without one the chosen moves lead from each node to an end. If there is a round trip
    with a positive gain, the worths grow until the chosen moves contain one, after as many rounds as there are
    nodes at the latest.
    """
    worths = {node: 0 for node in net.ends}
    choices = {}
    better = _better_moves(net, worths)
    while better:
        grown = {node: better[node][1] + worths[better[node][2]] for node in better}
        for node in better:
            worths[node] = grown[node]
            choices[node] = better[node]
        trip = _round_trip(choices)
        if trip:
            node = end_of(net.start, trip)
            raise Unbounded(_way_to(net, net.start, [node]), trip, _way_to(net, node, net.ends))
        better = _better_moves(net, worths)
    return (worths, choices)


def potentials(net):
    """The dict of the least potentials."""
    worths, _ = _solved(net)
    return worths


def greatest(net):
    """The greatest gain of a way from the start to an end."""
    return potentials(net)[net.start]


def best_way(net):
    """A way from the start to an end with the greatest gain."""
    _, choices = _solved(net)
    way = []
    while end_of(net.start, way) in choices:
        way.append(choices[end_of(net.start, way)])
    return way


def _is_same(first, second):
    """Whether two values are equal, True and False being no integers."""
    if isinstance(first, (tuple, list)) and type(first) is type(second):
        return len(first) == len(second) and all([_is_same(one, other) for one, other in zip(first, second)])
    return type(first) is type(second) and first == second


def _is_integer(value):
    return isinstance(value, int) and not isinstance(value, bool)


def _has_the_nodes(net, value):
    """Whether the keys of a dict are exactly the nodes of a net."""
    if len(value) != len(net.moves) or not all([node in value for node in net.moves]):
        return False
    # Now each key is equal to a node, but it may hold True and False in place of 1 and 0.
    nodes = {node: node for node in net.moves}
    return all([_is_same(key, nodes[key]) for key in value])


def is_potentials(net, value):
    """True if a value, which may be any value, is a dict of potentials, otherwise False."""
    if not isinstance(value, dict) or not _has_the_nodes(net, value):
        return False
    if not all([_is_integer(value[node]) for node in value]):
        return False
    for node in net.moves:
        if not all([value[node] >= move[1] + value[move[2]] for move in net.moves[node]]):
            return False
    return all([value[node] >= 0 for node in net.ends])


def is_way(net, node, value):
    """True if a value, which may be any value, is a list of moves that is a way from the node, otherwise False."""
    if not isinstance(value, list):
        return False
    for move in value:
        if not any([_is_same(move, known) for known in net.moves[node]]):
            return False
        node = move[2]
    return True
