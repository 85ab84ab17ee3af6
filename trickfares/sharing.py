"""The rides of a history, shared by several cards as cheaply as possible."""

from trickfares.errors import TooLarge
from trickfares.machines import machine_rows

MOST_LETTERS = 60


def _groups_before(rows, place, groups):
    """The groups of the states ahead of a letter, by those behind it."""
    numbers = {}
    told = []
    for state, row in enumerate(rows):
        after, cost = row[place]
        # The point is the last letter. It moves each card, but a ride may be that of another card.
        other = after if place == len(row) - 1 else state
        key = (groups[other], groups[after], cost)
        if key not in numbers:
            numbers[key] = len(numbers)
        told.append(numbers[key])
    return told


def _groups_behind(rows, places):
    """For each letter of a history the groups of the states behind it, by numbers.

    From two states of one group a card pays the same for the rest, whichever rides of the rest it takes.
    """
    groups = [0] * len(rows)
    told = [groups]
    for place in places[:0:-1]:
        groups = _groups_before(rows, place, groups)
        told.append(groups)
    return told[::-1]


def _behind(rows, place, sharing):
    """The sharings behind a letter: one behind a point, which moves all cards, and one for each card behind a ride."""
    total, cards, numbers = sharing
    steps = [rows[state][place] for state in cards]
    if place == len(rows[0]) - 1:
        return [(total, tuple([after for after, _ in steps]), numbers)]
    told = []
    for at, (after, cost) in enumerate(steps):
        told.append((total + cost, cards[:at] + (after,) + cards[at + 1:], numbers + str(at + 1)))
    return told


def _least(sharings, groups):
    """The cheapest sharings, one for each choice of groups; which card is in which group means nothing to the rest."""
    found = {}
    for sharing in sharings:
        chosen = tuple(sorted([groups[state] for state in sharing[1]]))
        if chosen not in found or sharing[0] < found[chosen][0]:
            found[chosen] = sharing
    return list(found.values())


def cheapest(system, history, cards):
    """The tuple of the least cost of a history shared by so many new cards, and of the card's number for each ride."""
    # UnknownLetter comes ahead of TooLarge.
    system.costs(history)
    if len(history) > MOST_LETTERS:
        raise TooLarge(MOST_LETTERS)
    rows = machine_rows(system)
    places = [system.letters.index(letter) for letter in history]
    # Rides take one card at least.
    sharings = [(0, (0,) * max(cards, 1), "")]
    for place, groups in zip(places, _groups_behind(rows, places)):
        sharings = _least([told for sharing in sharings for told in _behind(rows, place, sharing)], groups)
    # Behind the last letter all states are in one group, so one sharing is left.
    total, _, numbers = sharings[0]
    return (total, numbers)
