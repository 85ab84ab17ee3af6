"""The five tricks: their nets, what they gain, and the histories without and with them."""

from trickfares.fares import POINT
from trickfares.machines import machine_rows
from trickfares.pairs import gaining_way, greatest_or_none, grown_net, pair_moves

TRICKS = ("more", "later", "earlier", "cards", "shared")


def _trick_move(rows, trick, kind, at, state):
    """The move with "more", "later" or "earlier" and the kind with this place among the letters."""
    now, cost = rows[state][at]
    if trick == "more":
        return ((trick, kind), 0 - cost, (state, now))
    # The point is the last letter.
    behind_both, _ = rows[now][-1]
    waited, _ = rows[state][-1]
    later, later_cost = rows[waited][at]
    if trick == "later":
        return ((trick, kind), cost - later_cost, (behind_both, later))
    return ((trick, kind), later_cost - cost, (later, behind_both))


def _ride_moves(letters, rows, trick, node):
    """The moves of a node of the nets for "more", "later" and "earlier"."""
    if len(node) == 2:
        return pair_moves(letters, rows, rows, node)
    state = node[0]
    moves = [(letter, 0, (after,)) for letter, (after, _) in zip(letters, rows[state])]
    for at, kind in enumerate(letters[:-1]):
        moves.append(_trick_move(rows, trick, kind, at, state))
    return moves


def _card_moves(letters, rows, sign, node):
    """The moves of a node of the nets for two cards and, with the sign -1, for a shared card."""
    whole, first, second = node
    moves = []
    for at, kind in enumerate(letters[:-1]):
        after, cost = rows[whole][at]
        first_after, first_cost = rows[first][at]
        second_after, second_cost = rows[second][at]
        moves.append(((kind, 1), sign * (cost - first_cost), (after, first_after, second)))
        moves.append(((kind, 2), sign * (cost - second_cost), (after, first, second_after)))
    moves.append((POINT, 0, tuple([rows[state][-1][0] for state in node])))
    return moves


def trick_net(system, trick):
    """The net of a trick: a way gains what the history without the trick costs more than the one with it."""
    letters = system.letters
    rows = machine_rows(system)
    if trick in ("cards", "shared"):
        sign = 1 if trick == "cards" else -1
        return grown_net((0, 0, 0), lambda node: _card_moves(letters, rows, sign, node))
    return grown_net((0,), lambda node: _ride_moves(letters, rows, trick, node))


def gain(system, trick):
    """The greatest gain of a trick, or None if there is no bound."""
    return greatest_or_none(trick_net(system, trick))


def example(system, trick):
    """A way from the start of the net of a trick to an end with a positive gain, or None if there is none."""
    return gaining_way(trick_net(system, trick))


def _with_both(label, trick):
    """The tuple of the letters without and with the trick for a label of "more", "later" or "earlier"."""
    if isinstance(label, str):
        return (label, label)
    kind = label[1]
    if trick == "more":
        return ("", kind)
    if trick == "later":
        return (kind + POINT, POINT + kind)
    return (POINT + kind, kind + POINT)


def _on_cards(label):
    """The tuple of the letters for all rides, for the first and for the second card."""
    if isinstance(label, str):
        return (label, label, label)
    kind, card = label
    return (kind, kind, "") if card == 1 else (kind, "", kind)


def histories(system, trick, way):
    """The tuple of the history without the trick and the list of those with it.

    For "shared" the list of those without it comes first, and the history with it stands alone in the list.
    """
    if trick in ("cards", "shared"):
        told = [_on_cards(move[0]) for move in way]
        whole, first, second = ["".join([parts[at] for parts in told]) for at in range(3)]
        return (whole, [first, second]) if trick == "cards" else ([first, second], [whole])
    told = [_with_both(move[0], trick) for move in way]
    without, changed = ["".join([parts[at] for parts in told]) for at in range(2)]
    return (without, [changed])
