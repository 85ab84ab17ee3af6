import copy
import random
import unittest

from tests.account import Account, TRICKS, ends_of, random_accounts, trick_moves
from tests.model import random_models
from tests.test_nets import longest
from trickfares.errors import TooLarge
from trickfares.fares import System
from trickfares.safe import safe_values
from trickfares.tricks import gain, trick_net

ALL = list(range(21))
CHANGES = System.parse("slots 1\nride a 4 4\nride b 2 2\ntransfer 0 1")


def words_of(model):
    """The words and kinds that stand for a number of a model."""
    words = [(word, None) for word in ("cap", "bonus", "transfer") if getattr(model, word) is not None]
    return words + [(word, kind) for word in ("price", "peak") for kind in sorted(model.rides)]


def changed(model, word, number, kind):
    """A model with a number changed."""
    other = copy.deepcopy(model)
    if word == "transfer":
        other.transfer = (model.transfer[0], number)
    elif word in ("price", "peak"):
        price, peak = model.rides[kind]
        other.rides[kind] = (number, peak) if word == "price" else (price, number)
    else:
        setattr(other, word, number)
    return other


def expected_values(model, trick, word, kind):
    """The safe values by the texts of the changed models."""
    found = []
    for number in range(2, 5) if word == "bonus" else ALL:
        try:
            told = gain(System.parse(changed(model, word, number, kind).text()), trick)
        except TooLarge:
            continue
        if told is not None and told <= 0:
            found.append(number)
    return found


class SafeTest(unittest.TestCase):
    def assertSafe(self, text, trick, word, expected, kind=None):
        system = System.parse(text)
        told = safe_values(system, trick, word, kind=kind)
        self.assertEqual(told, expected, (text, trick, word))
        self.assertEqual({type(told)} | {type(number) for number in told}, {list} | ({int} if told else set()))
        self.assertEqual(str(system), text)

    def test_the_example(self):
        self.assertEqual(safe_values(CHANGES, "more", "transfer"), list(range(2, 21)))

    def test_all_numbers(self):
        for trick in TRICKS:
            self.assertSafe("slots 1\nride a 4 4", trick, "price", ALL, "a")
            self.assertSafe("slots 1\nride a 4 4", trick, "peak", ALL, "a")
        self.assertSafe("slots 1\nride a 4 4\ntransfer 4 1", "cards", "transfer", ALL)
        self.assertSafe("slots 1\nride a 4 4\nride b 9 9\ncap 3", "more", "cap", ALL)
        self.assertSafe("slots 1\nride a 4 4\nbonus 3", "more", "bonus", [2, 3, 4])

    def test_no_number(self):
        self.assertSafe("slots 1\nride a 9 9\nride b 1 1\nbonus 2", "more", "bonus", [])
        self.assertSafe("slots 1\nride a 9 9\nride b 1 1\nbonus 2", "cards", "bonus", [])
        self.assertSafe("slots 2\npeak 1\nride a 9 4\nride b 5 5\ntransfer 0 3", "later", "price", [], "b")
        self.assertSafe("slots 2\npeak 1\nride a 9 4\nride b 5 5\ntransfer 0 3", "later", "peak", [], "b")
        self.assertSafe("slots 2\npeak 1\nride a 9 4\nride b 5 5\ntransfer 0 3", "shared", "transfer", list(range(9, 21)))

    def test_each_word(self):
        self.assertSafe("slots 1\nride a 4 4\nride b 2 2\ntransfer 0 1", "later", "transfer", list(range(4, 21)))
        self.assertSafe("slots 1\nride a 4 4\nride b 2 2\ntransfer 0 1", "more", "price", [1, 2, 3], "a")
        self.assertSafe("slots 1\nride a 4 4\nride b 2 2\ntransfer 0 1", "more", "price", [3, 4, 5], "b")
        self.assertSafe("slots 2\npeak 1\nride a 4 9", "later", "price", [9], "a")
        self.assertSafe("slots 2\npeak 1\nride a 4 9", "earlier", "peak", [4], "a")
        self.assertSafe("slots 2\nride a 4 4\ncap 6", "shared", "cap", [0])
        self.assertSafe("slots 1\nride a 3 3\nride b 3 4\nbonus 2", "cards", "bonus", [2, 3, 4])

    def test_a_price_without_peak_slots(self):
        # Without a row of peak slots the price in them means nothing.
        self.assertSafe("slots 2\nride a 4 9", "later", "peak", ALL, "a")
        self.assertSafe("slots 1\nride a 4 4\nride b 2 2\ntransfer 0 1", "more", "peak", [], "a")

    def test_the_price_in_peak_slots_alone(self):
        self.assertSafe("slots 1\npeak 0\nride a 9 4\nride b 1 2\ntransfer 0 1", "more", "price", [], "a")
        self.assertSafe("slots 1\npeak 0\nride a 9 4\nride b 1 2\ntransfer 0 1", "more", "peak", [1, 2, 3], "a")

    def test_numbers_with_too_many_states_are_left_out(self):
        text = "slots 7\npeak 0 1 3 5\nride m 11 0\nride y 5 14\nride z 4 18\ncap 14"
        self.assertSafe(text, "more", "peak", [0] + list(range(2, 21)), "y")
        with self.assertRaises(TooLarge) as caught:
            System.parse(text).with_number("peak", 1, kind="y")
        self.assertEqual(caught.exception.bound, 100)

    def test_numbers_with_too_many_nodes_are_left_out(self):
        text = "slots 5\nride c 13 15\ncap 13"
        self.assertSafe(text, "cards", "price", [0] + list(range(2, 21)), "c")
        with self.assertRaises(TooLarge) as caught:
            trick_net(System.parse(text).with_number("price", 1, kind="c"), "cards")
        self.assertEqual(caught.exception.bound, 600)
        text = "slots 1\npeak 0\nride c 0 0\ntransfer 1 2\nbonus 3"
        self.assertSafe(text, "shared", "bonus", [2, 3])
        self.assertRaises(TooLarge, trick_net, System.parse(text).with_number("bonus", 4), "shared")

    def test_a_system_that_is_itself_left_out(self):
        system = System.parse("slots 5\nride c 1 1\ncap 13")
        self.assertRaises(TooLarge, gain, system, "cards")
        self.assertEqual(safe_values(system, "cards", "price", kind="c"), [0] + list(range(2, 21)))

    def test_all_words_and_tricks_of_random_systems(self):
        found = {}
        for model in random_models(111, 20):
            system = System.parse(model.text())
            for word, kind in words_of(model):
                trick = random.Random(model.text() + word).choice(TRICKS)
                told = safe_values(system, trick, word, kind=kind)
                self.assertEqual(told, expected_values(model, trick, word, kind), (str(system), trick, word, kind))
                kinds = found.setdefault(word, set())
                kinds.add("none" if not told else "all" if len(told) == (3 if word == "bonus" else 21) else "some")
        for word in ("transfer", "price", "peak"):
            self.assertEqual(found[word], {"none", "some", "all"}, word)
        # With a cap of 0 all is free.
        self.assertEqual(found["cap"], {"some", "all"})
        self.assertGreaterEqual(found["bonus"], {"none", "all"})

    def test_small_systems_against_the_account(self):
        chance = random.Random(112)
        found = {}
        for account in random_accounts(113, 60, 60):
            model = account.model
            word, kind = chance.choice(words_of(model))
            trick = chance.choice(TRICKS)
            told = safe_values(System.parse(model.text()), trick, word, kind=kind)
            for number in (2, 3, 4) if word == "bonus" else chance.sample(ALL, 5):
                other = changed(model, word, number, kind)
                if len(other.states(12)) <= 12:
                    moves = trick_moves(Account(other), trick, 100)
                    if moves is not None:
                        best = longest(tuple([0] * (1 if trick in TRICKS[:3] else 3)), moves, ends_of(moves))
                        safe = best is not None and best[(0,) if trick in TRICKS[:3] else (0, 0, 0)] <= 0
                        self.assertEqual(number in told, safe, (other.text(), trick))
                        found[safe] = found.get(safe, 0) + 1
        self.assertGreater(min(found[True], found[False]), 40)

    def test_told_lists_are_new(self):
        told = safe_values(CHANGES, "more", "transfer")
        told.clear()
        self.assertEqual(safe_values(CHANGES, "more", "transfer"), list(range(2, 21)))

    def test_the_system_does_not_change(self):
        system = System.parse("slots 2\npeak 1\nride a 4 6\ntransfer 0 1\ncap 5\nbonus 2")
        before = dict(vars(system))
        for word, kind in (("cap", None), ("bonus", None), ("transfer", None), ("price", "a"), ("peak", "a")):
            for trick in TRICKS:
                safe_values(system, trick, word, kind=kind)
                self.assertEqual(vars(system), before)

    def test_kind_is_passed_by_name_only(self):
        with self.assertRaises(TypeError):
            safe_values(CHANGES, "more", "price", "a")


if __name__ == "__main__":
    unittest.main()
