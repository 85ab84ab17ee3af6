"""Long-run factors of two fare systems, with the evidence for them."""

from math import gcd

from trickfares.compare import net_of
from trickfares.errors import NoFactor, Unbounded
from trickfares.machines import machine_rows
from trickfares.nets import greatest, Net


def _priced_moves(first, second):
    """For each node of the net of two systems the tuples (move, cost in the first, cost in the second system)."""
    net = net_of(first, second)
    rows = machine_rows(first)
    others = machine_rows(second)
    priced = {}
    for p, q in net.moves:
        costs = [(step[1], other[1]) for step, other in zip(rows[p], others[q])]
        priced[(p, q)] = [(move, cost, other) for move, (cost, other) in zip(net.moves[(p, q)], costs)]
    return priced


def _weighed_net(priced, p, q):
    """The net in which a way gains q times its first cost less p times its second one; its labels are priced moves."""
    moves = {}
    for node in priced:
        moves[node] = [(label, q * label[1] - p * label[2], label[0][2]) for label in priced[node]]
    return Net((0, 0), moves, sorted(list(priced)))


def _plain(way):
    """A way of a weighed net as one of the net of the two systems."""
    return [label[0] for label, _, _ in way]


def _passing_trip(priced, p, q):
    """The tuple of a way and a round trip on which the first system costs more than p / q times the second one.

    None if there is none.
    """
    try:
        greatest(_weighed_net(priced, p, q))
    except Unbounded as error:
        return (error.way, error.round_trip)
    return None


def _solved(priced):
    """The tuple of the least factor, p and q in lowest terms, and of a way and a round trip with it.

    Each round trip that is found passes the factors before it. It goes through no node twice, so there are only
    finitely many, and the last one has the least factor that none passes.
    """
    p = 0
    q = 1
    evidence = None
    passing = _passing_trip(priced, p, q)
    while passing is not None:
        way, round_trip = passing
        cost = sum([move[0][1] for move in round_trip])
        other_cost = sum([move[0][2] for move in round_trip])
        evidence = (_plain(way), _plain(round_trip))
        if other_cost == 0:
            raise NoFactor(evidence[0], evidence[1])
        p = cost // gcd(cost, other_cost)
        q = other_cost // gcd(cost, other_cost)
        passing = _passing_trip(priced, p, q)
    return (p, q, evidence)


def factor(first, second):
    """The least long-run factor of two systems as a tuple (p, q) in lowest terms."""
    p, q, _ = _solved(_priced_moves(first, second))
    return (p, q)


def factor_constant(first, second):
    """The least K with q times the first price at most p times the second one + K, for the least factor p / q."""
    priced = _priced_moves(first, second)
    p, q, _ = _solved(priced)
    return greatest(_weighed_net(priced, p, q))


def factor_trip(first, second):
    """A tuple of a way and a round trip on which the prices have the least factor, or None if that is 0."""
    _, _, evidence = _solved(_priced_moves(first, second))
    return evidence
