"""Nets whose nodes are tuples of numbers of states, made move by move, and what their ways gain."""

from trickfares.errors import TooLarge, Unbounded
from trickfares.nets import best_way, gain_of, greatest, Net

MOST_NODES = 600


def grown_net(start, moves_from):
    """The net of the nodes that are reached from the start, by the moves that moves_from tells for a node.

    Its ends are all nodes but those of a single state, at which the trick is still to come.
    """
    found = [start]
    moves = {}
    known = {start: True}
    at = 0
    while at < len(found):
        told = moves_from(found[at])
        for move in told:
            if move[2] not in known:
                known[move[2]] = True
                found.append(move[2])
        if len(found) > MOST_NODES:
            raise TooLarge(MOST_NODES)
        moves[found[at]] = told
        at += 1
    return Net(start, moves, sorted([node for node in found if len(node) > 1]))


def pair_moves(letters, rows, others, pair):
    """The moves of a pair of states with all letters, by the rows of two machines."""
    p, q = pair
    moves = []
    for letter, (first, cost), (second, other_cost) in zip(letters, rows[p], others[q]):
        moves.append((letter, cost - other_cost, (first, second)))
    return moves


def pair_net(letters, rows, others, start):
    """The net of the pairs of states that are reached from a pair."""
    return grown_net(start, lambda pair: pair_moves(letters, rows, others, pair))


def greatest_or_none(net):
    """The greatest gain of a way from the start to an end, or None if there is no bound."""
    try:
        return greatest(net)
    except Unbounded:
        return None


def gaining_way(net):
    """A way from the start to an end with a positive gain, or None if there is none."""
    try:
        way = best_way(net)
    except Unbounded as error:
        missing = 1 - gain_of(error.way) - gain_of(error.rest)
        # Rounded up, so that the round trips together gain at least what is missing.
        times = max(0, -(-missing // gain_of(error.round_trip)))
        return error.way + error.round_trip * times + error.rest
    return way if gain_of(way) > 0 else None
