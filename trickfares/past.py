"""What the past of a card is worth: its state against other states."""

from trickfares.machines import machine_rows
from trickfares.pairs import greatest_or_none, pair_net


def worth(system, first, second):
    """By how much more a history costs at most from the first state than from the second, or None without a bound."""
    rows = machine_rows(system)
    return greatest_or_none(pair_net(system.letters, rows, rows, (first, second)))


def _next_pairs(rows, pair):
    """The states of two cards behind a ride with one of them, or behind a point."""
    p, q = pair
    # The point is the last letter.
    pairs = [(rows[p][-1][0], rows[q][-1][0])]
    pairs.extend([(after, q) for after, _ in rows[p][:-1]])
    pairs.extend([(p, after) for after, _ in rows[q][:-1]])
    return pairs


def same_time(system):
    """The ascending list of the pairs of different states that two cards can have after equally many points."""
    rows = machine_rows(system)
    found = [(0, 0)]
    known = {(0, 0): True}
    at = 0
    while at < len(found):
        for pair in _next_pairs(rows, found[at]):
            if pair not in known:
                known[pair] = True
                found.append(pair)
        at += 1
    return sorted([(p, q) for p, q in found if p != q])
