"""A second account of the nets of point 11, by what histories cost from the states of a model."""

import itertools
import random

from tests.model import random_model

TRICKS = ("more", "later", "earlier", "cards", "shared")


class Account:
    """A model with its table: states are numbered as in point 7."""

    def __init__(self, model):
        self.model = model
        self.letters = model.letters
        self.table = model.table()

    def run(self, state, history):
        """The tuple of the state behind a history from a state and its cost."""
        total = 0
        for letter in history:
            state, cost = self.table[state][self.letters.index(letter)]
            total += cost
        return state, total

    def after(self, state, history):
        return self.run(state, history)[0]

    def cost(self, state, history):
        return self.run(state, history)[1]


def all_histories(letters, most):
    """All histories with at most so many letters and points."""
    for length in range(most + 1):
        for parts in itertools.product(letters, repeat=length):
            yield "".join(parts)


def reached_moves(start, steps, most=10 ** 9):
    """The moves of the nodes that are reached, or None if there are more nodes than most."""
    moves = {}
    waiting = [start]
    for node in waiting:
        if node not in moves:
            moves[node] = steps(node)
            waiting.extend(move[2] for move in moves[node])
        if len(moves) > most:
            return None
    return moves


def pair_steps(first, second, node):
    told = []
    for letter in first.letters:
        (p, cost), (q, other) = first.run(node[0], letter), second.run(node[1], letter)
        told.append((letter, cost - other, (p, q)))
    return told


def pair_moves(first, second, start=(0, 0), most=10 ** 9):
    """The moves of the net of two accounts with the same letters."""
    return reached_moves(start, lambda node: pair_steps(first, second, node), most)


def without_and_with(trick, kind):
    """What a move with "more", "later" or "earlier" puts into the history without and into the one with it."""
    return {"more": ("", kind), "later": (kind + ".", "." + kind), "earlier": ("." + kind, kind + ".")}[trick]


def ride_trick_moves(account, trick, most=10 ** 9):
    def steps(node):
        if len(node) == 2:
            return pair_steps(account, account, node)
        told = [(letter, 0, (account.after(node[0], letter),)) for letter in account.letters]
        for kind in account.letters[:-1]:
            (p, cost), (q, other) = (account.run(node[0], text) for text in without_and_with(trick, kind))
            told.append(((trick, kind), cost - other, (p, q)))
        return told
    return reached_moves((0,), steps, most)


def card_trick_moves(account, trick, most=10 ** 9):
    def steps(node):
        told = []
        for kind in account.letters[:-1]:
            for card in (1, 2):
                whole, cost = account.run(node[0], kind)
                moved, other = account.run(node[card], kind)
                cards = [node[1], node[2]]
                cards[card - 1] = moved
                saved = cost - other if trick == "cards" else other - cost
                told.append(((kind, card), saved, (whole, *cards)))
        told.append((".", 0, tuple(account.after(state, ".") for state in node)))
        return told
    return reached_moves((0, 0, 0), steps, most)


def trick_moves(account, trick, most=10 ** 9):
    """The moves of the net of a trick."""
    told = card_trick_moves if trick in ("cards", "shared") else ride_trick_moves
    return told(account, trick, most)


def ends_of(moves):
    return sorted(node for node in moves if len(node) > 1)


def two_models(chance):
    """Two models with the same letters; often the second one has even prices about as low as a bonus makes them."""
    one, other = random_model(chance, True), random_model(chance, True)
    if chance.random() < 0.5:
        one.bonus = chance.randint(2, 4)
        price = one.bonus * chance.randint(1, 3)
        low = price - price // one.bonus + chance.choice((-1, 0, 0, 0, 1))
        one.rides = {kind: (price, price) for kind in list(one.rides)[:1]}
        other.rides = {kind: (low, low + chance.randint(0, 1)) for kind in one.rides}
        one.cap = other.cap = other.bonus = other.transfer = None
    else:
        other.rides = {kind: (chance.randint(0, 4), chance.randint(0, 4)) for kind in one.rides}
    one.letters = other.letters = "".join(sorted(one.rides)) + "."
    return one, other


def random_pairs(seed, many, most):
    """So many pairs of accounts with the same letters, with at most so many pairs of states, the same for a seed."""
    chance = random.Random(seed)
    pairs = []
    while len(pairs) < many:
        one, other = two_models(chance)
        if len(one.states(40)) <= 40 and len(other.states(40)) <= 40:
            first, second = Account(one), Account(other)
            if pair_moves(first, second, most=most) is not None:
                pairs.append((first, second))
    return pairs


def random_accounts(seed, many, most):
    """So many accounts of which each net of a trick has at most so many nodes, the same for a seed."""
    chance = random.Random(seed)
    accounts = []
    while len(accounts) < many:
        model = random_model(chance, True)
        if len(model.states(12)) <= 12:
            account = Account(model)
            if all(trick_moves(account, trick, most) is not None for trick in TRICKS):
                accounts.append(account)
    return accounts
