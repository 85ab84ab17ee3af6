"""Fare systems: their texts, their prices and the states of a card."""

from trickfares.errors import TooLarge, UnknownLetter
from trickfares.texts import read_rows, write_rows

NEW_CARD = (0, 0, 0, 0)
POINT = "."
MOST_STATES = 100

# The place of a number in its row, by the word that with_number takes for it.
PLACES = {"cap": 1, "bonus": 1, "transfer": 2, "price": 2, "peak": 3}


def reached(system, bound):
    """The states that some history leads to, in the order of their numbers.

    If there are more than the bound, not all of them are found. There may be infinitely many, since a number
    that with_number puts in may lie outside of the bounds of a text form.
    """
    found = [NEW_CARD]
    known = {NEW_CARD: True}
    at = 0
    while at < len(found) and len(found) <= bound:
        for letter in system.letters:
            state, _ = system.step(found[at], letter)
            if state not in known:
                known[state] = True
                found.append(state)
        at += 1
    return found


class System:
    """A fare system, made of the rows of its text form."""

    def __init__(self, rows):
        self.rows = tuple(rows)
        numbers = {row[0]: row[1:] for row in rows}
        self.slots = numbers["slots"][0]
        self.peak_slots = numbers.get("peak", ())
        self.prices = {row[1]: row[2:] for row in rows if row[0] == "ride"}
        self.letters = "".join(list(self.prices)) + POINT
        self.transfer = numbers.get("transfer")
        self.cap = numbers["cap"][0] if "cap" in numbers else None
        self.bonus = numbers["bonus"][0] if "bonus" in numbers else None
        if len(reached(self, MOST_STATES)) > MOST_STATES:
            raise TooLarge(MOST_STATES)

    @classmethod
    def parse(cls, text):
        """The system of a text form."""
        return cls(read_rows(text))

    def __str__(self):
        return str(write_rows(self.rows))

    def __eq__(self, other):
        return isinstance(other, System) and self.rows == other.rows

    def step(self, state, letter):
        """The tuple of the state behind a letter and the cost of the letter."""
        if letter == POINT:
            return (self._later(state), 0)
        slot, left, paid, count = state
        price, peak_price = self.prices[letter]
        cost = peak_price if slot in self.peak_slots else price
        if left > 0:
            cost = min(cost, self.transfer[1])
        else:
            left = 0 if self.transfer is None else self.transfer[0] + 1
            count, cost = self._full_ride(count, cost)
        if self.cap is not None:
            cost = min(cost, self.cap - paid)
            paid = paid + cost
        return ((slot, left, paid, count), cost)

    def _full_ride(self, count, cost):
        """The tuple of the count behind a full ride and its cost, a cap left aside."""
        if self.bonus is None:
            return (count, cost)
        if count + 1 == self.bonus:
            return (0, 0)
        return (count + 1, cost)

    def _later(self, state):
        """The state behind a point."""
        slot, left, paid, count = state
        if slot == self.slots - 1:
            slot = 0
            paid = 0
        else:
            slot = slot + 1
        return (slot, max(left - 1, 0), paid, count)

    def costs(self, history):
        """The list of the costs of the letters of a history from a new card."""
        for place, letter in enumerate(history):
            if letter not in self.letters:
                raise UnknownLetter(place)
        told = []
        state = NEW_CARD
        for letter in history:
            state, cost = self.step(state, letter)
            told.append(cost)
        return told

    def cost(self, history):
        """The cost of a history from a new card."""
        return sum(self.costs(history))

    def with_number(self, word, number, *, kind=None):
        """The system with one number changed; this one stays as it is."""
        place = PLACES[word]
        head = ("ride", kind) if word in ("price", "peak") else (word,)
        rows = []
        for row in self.rows:
            changed = row[:place] + (number,) + row[place + 1:]
            rows.append(changed if row[:len(head)] == head else row)
        return System(rows)
