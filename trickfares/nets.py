"""Nets of moves with gains: greatest gains with their evidence, and the checks of such evidence."""

from trickfares.errors import Unbounded


class Net:
    """A net with a start, a dict from its nodes to their moves (label, gain, next node), and its ends."""

    def __init__(self, start, moves, ends):
        self.start = start
        self.moves = {node: list(moves[node]) for node in moves}
        self.ends = list(ends)


def end_of(node, way):
    """The last node of a way from the node."""
    return way[-1][2] if way else node


def gain_of(way):
    """The gain of a way."""
    return sum([move[1] for move in way])


def _arrivals(net):
    """For each node the tuples (node before, move) of the moves that lead to it."""
    found = {node: [] for node in net.moves}
    for node in net.moves:
        for move in net.moves[node]:
            found[move[2]].append((node, move))
    return found


def _trip_from(node, choices):
    """The round trip along the chosen moves from a node that lies on it."""
    trip = [choices[node]]
    while trip[-1][2] != node:
        trip.append(choices[trip[-1][2]])
    return trip


def _round_trip(choices):
    """A round trip along the chosen moves, or the empty list if there is none."""
    seen = {}
    for first in choices:
        node = first
        while node in choices and node not in seen:
            seen[node] = first
            node = choices[node][2]
        if node in choices and seen[node] == first:
            return _trip_from(node, choices)
    return []


def _way_to(net, start, goals):
    """A way from a node to one of the goals, which can be reached from it."""
    arrivals = {}
    goal_nodes = {node: True for node in goals}
    found = [start]
    at = 0
    while found[at] not in goal_nodes:
        node = found[at]
        for move in net.moves[node]:
            if move[2] not in arrivals and move[2] != start:
                arrivals[move[2]] = (node, move)
                found.append(move[2])
        at += 1
    node = found[at]
    way = []
    while node != start:
        node, move = arrivals[node]
        way.append(move)
    return way[::-1]


def _raise_unbounded(net, trip):
    """Raises Unbounded with a round trip that has a positive gain."""
    node = end_of(net.start, trip)
    raise Unbounded(_way_to(net, net.start, [node]), trip, _way_to(net, node, net.ends))


def _later_first(net):
    """All nodes, each one behind the nodes that its moves lead to, except where round trips do not allow it."""
    order = []
    done = {}
    stack = list(net.moves)
    stack.append(net.start)
    while stack:
        node = stack[-1]
        if node not in done:
            done[node] = False
            stack.extend([move[2] for move in net.moves[node] if move[2] not in done])
        else:
            stack.pop()
            if not done[node]:
                done[node] = True
                order.append(node)
    return order


def _go_round(order, arrivals, waiting, worths, choices):
    """Passes on the worths of the waiting nodes, in this order; the number of choices that were made."""
    made = 0
    for node in order:
        if node in waiting:
            del waiting[node]
            worth = worths[node]
            for before, move in arrivals[node]:
                if before not in worths or move[1] + worth > worths[before]:
                    worths[before] = move[1] + worth
                    choices[before] = move
                    waiting[before] = True
                    made += 1
    return made


def _solved(net):
    """The least potentials, and for each node that a move gives its potential such a move.

    A move is chosen only if it gives its node more than the node had. So a round trip along chosen moves has
    a positive gain, and without one the chosen moves lead from each node to an end. In each round just the nodes
    that grew pass their worths on, later nodes first, so that without round trips one round is enough. If there is
    a round trip with a positive gain, the chosen moves contain one for good after as many rounds as there are
    nodes at the latest; they are looked at only after so many choices, as that takes a step for each of them.
    """
    order = _later_first(net)
    arrivals = _arrivals(net)
    worths = {node: 0 for node in net.ends}
    waiting = {node: True for node in net.ends}
    choices = {}
    made = 0
    while waiting:
        made += _go_round(order, arrivals, waiting, worths, choices)
        if made >= len(worths):
            trip = _round_trip(choices)
            if trip:
                _raise_unbounded(net, trip)
            made = 0
    return (worths, choices)


def potentials(net):
    """The dict of the least potentials."""
    worths, _ = _solved(net)
    return worths


def greatest(net):
    """The greatest gain of a way from the start to an end."""
    return potentials(net)[net.start]


def best_way(net):
    """A way from the start to an end with the greatest gain."""
    _, choices = _solved(net)
    way = []
    while end_of(net.start, way) in choices:
        way.append(choices[end_of(net.start, way)])
    return way


def _is_same(first, second):
    """Whether two values are equal, True and False being no integers."""
    if isinstance(first, (tuple, list)) and type(first) is type(second):
        return len(first) == len(second) and all([_is_same(one, other) for one, other in zip(first, second)])
    return type(first) is type(second) and first == second


def _is_integer(value):
    return isinstance(value, int) and not isinstance(value, bool)


def _has_the_nodes(net, value):
    """Whether the keys of a dict are exactly the nodes of a net."""
    if len(value) != len(net.moves) or not all([node in value for node in net.moves]):
        return False
    # Now each key is equal to a node, but it may hold True and False in place of 1 and 0.
    nodes = {node: node for node in net.moves}
    return all([_is_same(key, nodes[key]) for key in value])


def is_potentials(net, value):
    """True if a value, which may be any value, is a dict of potentials, otherwise False."""
    if not isinstance(value, dict) or not _has_the_nodes(net, value):
        return False
    if not all([_is_integer(value[node]) for node in value]):
        return False
    for node in net.moves:
        if not all([value[node] >= move[1] + value[move[2]] for move in net.moves[node]]):
            return False
    return all([value[node] >= 0 for node in net.ends])


def is_way(net, node, value):
    """True if a value, which may be any value, is a list of moves that is a way from the node, otherwise False."""
    if not isinstance(value, list):
        return False
    for move in value:
        if not any([_is_same(move, known) for known in net.moves[node]]):
            return False
        node = move[2]
    return True
