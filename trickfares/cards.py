"""Live cards, whose histories can be put right."""

from trickfares.errors import BadPlace, UnknownLetter
from trickfares.fares import NEW_CARD, POINT


class Card:
    """A card of a system, with the history of its letters so far."""

    def __init__(self, system):
        self._system = system
        self._history = ""
        self._total = 0
        self._state = NEW_CARD

    @property
    def history(self):
        """The letters so far."""
        return self._history

    @property
    def total(self):
        """What was paid so far."""
        return self._total

    @property
    def state(self):
        """The state behind the history."""
        return self._state

    def tap(self, letter):
        """Takes a letter; returns what it costs."""
        if letter != POINT:
            self._check_kind(letter)
        self._state, cost = self._system.step(self._state, letter)
        self._history = self._history + letter
        self._total = self._total + cost
        return cost

    def missed(self, place, kind):
        """Puts a ride in before a place of the history; returns by how much the total grows."""
        self._check_kind(kind)
        if place < 0 or place > len(self._history):
            raise BadPlace(place)
        return self._rewrite(self._history[:place] + kind + self._history[place:])

    def wrong(self, place):
        """Takes the ride at a place of the history out; returns by how much the total grows."""
        if place < 0 or place >= len(self._history) or self._history[place] == POINT:
            raise BadPlace(place)
        return self._rewrite(self._history[:place] + self._history[place + 1:])

    def next_costs(self):
        """A dict from the kinds to what a ride would cost now."""
        return {kind: self._system.step(self._state, kind)[1] for kind in self._system.prices}

    def fork(self):
        """A card in the same state, with the same history and total."""
        other = Card(self._system)
        other._history = self._history
        other._total = self._total
        other._state = self._state
        return other

    def _check_kind(self, kind):
        """Raises UnknownLetter if a text is no kind of the system."""
        if kind not in self._system.prices:
            raise UnknownLetter(0)

    def _rewrite(self, history):
        """Puts another history in place of the one so far; returns by how much the total grows."""
        before = self._total
        self._total = 0
        self._state = NEW_CARD
        self._history = history
        for letter in history:
            self._state, cost = self._system.step(self._state, letter)
            self._total = self._total + cost
        return self._total - before
