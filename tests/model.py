"""A second account of the prices, for comparison: it looks back at the history instead of keeping a state."""

import random


class Model:
    """A fare system by its numbers, with its text form written by hand."""

    def __init__(self, slots, rides, peak=(), transfer=None, cap=None, bonus=None):
        self.slots = slots
        self.rides = rides
        self.peak = peak
        self.transfer = transfer
        self.cap = cap
        self.bonus = bonus
        self.letters = "".join(sorted(rides)) + "."

    def text(self):
        rows = ["slots %d" % self.slots]
        if self.peak:
            rows.append("peak " + " ".join("%d" % slot for slot in self.peak))
        for kind in sorted(self.rides):
            rows.append("ride %s %d %d" % (kind, *self.rides[kind]))
        if self.transfer is not None:
            rows.append("transfer %d %d" % self.transfer)
        if self.cap is not None:
            rows.append("cap %d" % self.cap)
        if self.bonus is not None:
            rows.append("bonus %d" % self.bonus)
        return "\n".join(rows)

    def events(self, history):
        """For each letter the tuple (time, letter, cost, full); the time is the number of points before it."""
        told = []
        for place, letter in enumerate(history):
            time = history[:place].count(".")
            if letter == ".":
                told.append((time, letter, 0, False))
                continue
            base = self.rides[letter][1 if time % self.slots in self.peak else 0]
            fulls = [event[0] for event in told if event[3]]
            change = bool(fulls) and self.transfer is not None and time - fulls[-1] <= self.transfer[0]
            if change:
                cost = min(base, self.transfer[1])
            elif self.bonus is not None and (len(fulls) + 1) % self.bonus == 0:
                cost = 0
            else:
                cost = base
            if self.cap is not None:
                cost = min(cost, self.cap - self.paid(told, time))
            told.append((time, letter, cost, not change))
        return told

    def paid(self, told, time):
        return sum(event[2] for event in told if event[0] // self.slots == time // self.slots)

    def costs(self, history):
        return [event[2] for event in self.events(history)]

    def state(self, history):
        """The state of the card behind a history."""
        told = self.events(history)
        time = history.count(".")
        fulls = [event[0] for event in told if event[3]]
        left = 0
        if fulls and self.transfer is not None:
            left = max(0, fulls[-1] + self.transfer[0] + 1 - time)
        paid = 0 if self.cap is None else self.paid(told, time)
        count = 0 if self.bonus is None else len(fulls) % self.bonus
        return (time % self.slots, left, paid, count)

    def states(self, most=10 ** 9):
        """The states in the order of point 7, or the first ones if there are more than most."""
        histories = [""]
        found = [self.state("")]
        for history in histories:
            if len(found) > most:
                break
            for letter in self.letters:
                state = self.state(history + letter)
                if state not in found:
                    found.append(state)
                    histories.append(history + letter)
        return found

    def table(self):
        """For each state of states() the list of the tuples (state behind a letter, cost)."""
        histories = [""]
        found = [self.state("")]
        rows = []
        for history in histories:
            row = []
            for letter in self.letters:
                longer = history + letter
                state = self.state(longer)
                if state not in found:
                    found.append(state)
                    histories.append(longer)
                row.append((found.index(state), self.costs(longer)[-1]))
            rows.append(row)
        return rows


def random_model(chance, small=False):
    """A model with numbers that the chance takes, within the bounds of point 4."""
    slots = chance.randint(1, 3 if small else 8)
    high = 4 if small else 20
    kinds = sorted(chance.sample("abcmyz", chance.randint(1, 3)))
    rides = {kind: (chance.randint(0, high), chance.randint(0, high)) for kind in kinds}
    peak = ()
    if chance.random() < 0.5:
        peak = tuple(sorted(chance.sample(range(slots), chance.randint(1, slots))))
    transfer = (chance.randint(0, 2 if small else 4), chance.randint(0, high)) if chance.random() < 0.5 else None
    cap = chance.randint(0, high) if chance.random() < 0.5 else None
    bonus = chance.randint(2, 4) if chance.random() < 0.4 else None
    return Model(slots, rides, peak, transfer, cap, bonus)


def random_models(seed, many, small=False):
    """So many models with at most 100 states, always the same ones for a seed."""
    chance = random.Random(seed)
    models = []
    while len(models) < many:
        model = random_model(chance, small)
        if len(model.states(100)) <= 100:
            models.append(model)
    return models


def random_history(chance, letters, most):
    return "".join(chance.choice(letters) for _ in range(chance.randint(0, most)))
