import random
import unittest

from tests.model import Model, random_history, random_models
from trickfares.cards import Card
from trickfares.errors import BadPlace, UnknownLetter
from trickfares.fares import System

CHANGES = System.parse("slots 1\nride a 4 4\nride b 2 2\ntransfer 0 1")
FULL = System.parse("slots 2\npeak 1\nride a 4 6\nride c 2 2\ntransfer 0 1\ncap 9\nbonus 3")

# Texts that are no letter of FULL, and so no kind either.
NO_LETTERS = ("", "b", "d", "A", " ", "\n", "~", "1", "ac", "a.", "..", "ac.", "aa", "a\n", "\na", "c.")


def card_with(system, history):
    card = Card(system)
    for letter in history:
        card.tap(letter)
    return card


def told(card):
    """All that a card tells."""
    return (card.history, card.total, card.state, card.next_costs())


class CardCase(unittest.TestCase):
    def assertLike(self, card, system, history):
        """A card that tells what a new one with this history tells."""
        self.assertEqual(told(card), told(card_with(system, history)))
        self.assertEqual((card.history, card.total), (history, system.cost(history)))

    def assertRefused(self, error, value, card, call, *passed):
        """A call that raises an error and changes nothing."""
        before = told(card)
        with self.assertRaises(error) as caught:
            call(*passed)
        self.assertEqual(vars(caught.exception), {"place": value})
        self.assertEqual(told(card), before)


class TapTest(CardCase):
    def test_a_new_card(self):
        card = Card(FULL)
        self.assertEqual(told(card), ("", 0, (0, 0, 0, 0), {"a": 4, "c": 2}))
        self.assertEqual([type(card.history), type(card.total), type(card.state)], [str, int, tuple])

    def test_by_hand(self):
        card = Card(FULL)
        expected = (
            ("a", 4, (0, 1, 4, 1)), ("a", 1, (0, 1, 5, 1)), (".", 0, (1, 0, 5, 1)), ("c", 2, (1, 1, 7, 2)),
            ("c", 1, (1, 1, 8, 2)), (".", 0, (0, 0, 0, 2)), ("a", 0, (0, 1, 0, 0)), (".", 0, (1, 0, 0, 0)),
            ("a", 6, (1, 1, 6, 1)), ("a", 1, (1, 1, 7, 1)), ("c", 1, (1, 1, 8, 1)), ("c", 1, (1, 1, 9, 1)),
            ("a", 0, (1, 1, 9, 1)), (".", 0, (0, 0, 0, 1)),
        )
        history = ""
        total = 0
        for letter, cost, state in expected:
            self.assertEqual(card.tap(letter), cost)
            history += letter
            total += cost
            self.assertEqual((card.history, card.total, card.state), (history, total, state))

    def test_random_systems_against_the_model(self):
        chance = random.Random(121)
        for model in random_models(122, 60):
            card = Card(System.parse(model.text()))
            history = random_history(chance, model.letters, 25)
            costs = model.costs(history)
            for at, letter in enumerate(history):
                self.assertEqual(card.tap(letter), costs[at])
                self.assertEqual(card.history, history[:at + 1])
                self.assertEqual(card.total, sum(costs[:at + 1]))
                self.assertEqual(card.state, model.state(history[:at + 1]))

    def test_other_texts(self):
        for history in ("", "a.ac"):
            card = card_with(FULL, history)
            for text in NO_LETTERS:
                self.assertRefused(UnknownLetter, 0, card, card.tap, text)
            self.assertLike(card, FULL, history)

    def test_properties_are_only_read(self):
        card = Card(FULL)
        for name in ("history", "total", "state"):
            self.assertIsInstance(vars(Card)[name], property)
            self.assertRaises(AttributeError, setattr, card, name, 1)

    def test_a_long_history(self):
        history = "ac.a..c." * 1000
        card = card_with(FULL, history)
        self.assertEqual((card.history, card.total), (history, FULL.cost(history)))
        self.assertEqual(card.missed(0, "a") + card.wrong(0), 0)
        self.assertEqual((card.history, card.total), (history, FULL.cost(history)))

    def test_the_system_does_not_change(self):
        before = (str(FULL), FULL.letters, FULL.slots)
        card = card_with(FULL, "a.ac")
        card.missed(0, "c")
        card.wrong(1)
        card.fork().tap("a")
        self.assertEqual((str(FULL), FULL.letters, FULL.slots), before)
        self.assertLike(Card(FULL), FULL, "")


class MissedTest(CardCase):
    def test_the_example(self):
        card = card_with(CHANGES, "a")
        self.assertEqual(card.missed(0, "b"), -1)
        self.assertLike(card, CHANGES, "ba")

    def test_by_hand(self):
        for place, grown, history in ((0, -1, "baa."), (1, 1, "aba."), (2, 1, "aab."), (3, 2, "aa.b")):
            card = card_with(CHANGES, "aa.")
            self.assertEqual(card.missed(place, "b"), grown)
            self.assertLike(card, CHANGES, history)
        card = card_with(System.parse("slots 1\nride a 9 9\nride b 1 1\nbonus 2"), "aa")
        self.assertEqual([card.missed(0, "b"), card.missed(3, "b"), card.missed(0, "a")], [1, 0, 9])
        self.assertEqual((card.history, card.total), ("abaab", 19))

    def test_each_place_and_kind_against_the_model(self):
        chance = random.Random(123)
        signs = set()
        for model in random_models(124, 40):
            system = System.parse(model.text())
            history = random_history(chance, model.letters, 8)
            for place in range(len(history) + 1):
                for kind in model.letters[:-1]:
                    card = card_with(system, history)
                    longer = history[:place] + kind + history[place:]
                    grown = sum(model.costs(longer)) - sum(model.costs(history))
                    self.assertEqual(card.missed(place, kind), grown)
                    self.assertEqual((card.history, card.total), (longer, sum(model.costs(longer))))
                    self.assertEqual(card.state, model.state(longer))
                    signs.add((grown > 0) - (grown < 0))
        self.assertEqual(signs, {-1, 0, 1})

    def test_a_new_card(self):
        card = Card(FULL)
        self.assertEqual(card.missed(0, "c"), 2)
        self.assertLike(card, FULL, "c")

    def test_bad_places(self):
        for history in ("", "a", "..", "ac.a"):
            card = card_with(FULL, history)
            for place in (-1, -2, -5, -10 ** 30, len(history) + 1, len(history) + 2, 10 ** 30):
                self.assertRefused(BadPlace, place, card, card.missed, place, "a")

    def test_no_kinds(self):
        for history in ("", "ac.a"):
            card = card_with(FULL, history)
            for kind in NO_LETTERS + (".",):
                # Also with a place that the history does not have.
                for place in (0, len(history), -1, len(history) + 1):
                    self.assertRefused(UnknownLetter, 0, card, card.missed, place, kind)


class WrongTest(CardCase):
    def test_the_example(self):
        card = card_with(CHANGES, "ba")
        self.assertEqual(card.wrong(1), -1)
        self.assertLike(card, CHANGES, "b")

    def test_each_place_against_the_model(self):
        chance = random.Random(125)
        signs = set()
        for model in random_models(126, 150, small=True):
            system = System.parse(model.text())
            history = random_history(chance, model.letters, 10)
            for place, letter in enumerate(history):
                card = card_with(system, history)
                if letter == ".":
                    self.assertRefused(BadPlace, place, card, card.wrong, place)
                else:
                    shorter = history[:place] + history[place + 1:]
                    grown = sum(model.costs(shorter)) - sum(model.costs(history))
                    self.assertEqual(card.wrong(place), grown)
                    self.assertEqual((card.history, card.total), (shorter, sum(model.costs(shorter))))
                    self.assertEqual(card.state, model.state(shorter))
                    signs.add((grown > 0) - (grown < 0))
        self.assertEqual(signs, {-1, 0, 1})

    def test_the_total_may_grow(self):
        card = card_with(System.parse("slots 1\nride a 9 9\nride b 1 1\nbonus 2"), "ba")
        self.assertEqual(card.wrong(0), 8)
        self.assertEqual((card.history, card.total), ("a", 9))

    def test_bad_places(self):
        for history in ("", "a", "..", "ac.a"):
            card = card_with(FULL, history)
            for place in (-1, -len(history), -10 ** 30, len(history), len(history) + 1, 10 ** 30):
                if place != 0 or history == "":
                    self.assertRefused(BadPlace, place, card, card.wrong, place)
        card = card_with(FULL, ".a.")
        for place in (0, 2):
            self.assertRefused(BadPlace, place, card, card.wrong, place)

    def test_a_ride_put_in_and_taken_out_again(self):
        chance = random.Random(127)
        for model in random_models(128, 30):
            system = System.parse(model.text())
            history = random_history(chance, model.letters, 12)
            card = card_with(system, history)
            for place in range(len(history) + 1):
                kind = chance.choice(model.letters[:-1])
                grown = card.missed(place, kind)
                self.assertEqual(card.history[place], kind)
                self.assertEqual(card.wrong(place), -grown)
                self.assertLike(card, system, history)

    def test_taps_behind_a_change(self):
        card = card_with(FULL, "a.c")
        card.missed(0, "c")
        card.wrong(1)
        self.assertEqual([card.tap(letter) for letter in "a.a"], FULL.costs("c.ca.a")[3:])
        self.assertLike(card, FULL, "c.ca.a")

    def test_many_changes_of_one_card(self):
        chance = random.Random(129)
        for model in random_models(130, 20):
            system = System.parse(model.text())
            card, history = Card(system), ""
            for _ in range(40):
                before = system.cost(history)
                place = chance.randint(0, len(history))
                letter = chance.choice(model.letters)
                way = chance.randint(1, 3)
                if way == 1:
                    history = history + letter
                    grown = card.tap(letter)
                elif way == 2 and letter != ".":
                    history = history[:place] + letter + history[place:]
                    grown = card.missed(place, letter)
                elif history[place:place + 1] not in ("", "."):
                    history = history[:place] + history[place + 1:]
                    grown = card.wrong(place)
                else:
                    grown = 0
                self.assertEqual((card.history, card.total), (history, before + grown))
                self.assertLike(card, system, history)


class NextCostsTest(CardCase):
    def test_by_hand(self):
        card = Card(CHANGES)
        self.assertEqual(card.next_costs(), {"a": 4, "b": 2})
        card.tap("b")
        self.assertEqual(card.next_costs(), {"a": 1, "b": 1})
        card.tap(".")
        self.assertEqual(card.next_costs(), {"a": 4, "b": 2})

    def test_what_a_ride_costs_then(self):
        chance = random.Random(131)
        for model in random_models(132, 60):
            system = System.parse(model.text())
            history = random_history(chance, model.letters, 20)
            card = card_with(system, history)
            costs = card.next_costs()
            self.assertEqual((type(costs), sorted(costs)), (dict, sorted(model.rides)))
            self.assertEqual(costs, {kind: model.costs(history + kind)[-1] for kind in model.rides})
            self.assertLike(card, system, history)
            kind = chance.choice(sorted(costs))
            self.assertEqual(card.tap(kind), costs[kind])

    def test_told_dicts_are_new(self):
        card = card_with(FULL, "a")
        costs = card.next_costs()
        costs.clear()
        costs["z"] = 7
        self.assertEqual(card.next_costs(), {"a": 1, "c": 1})
        self.assertLike(card, FULL, "a")


class ForkTest(CardCase):
    def test_the_same_card(self):
        for history in ("", "a", "ac.a..", "." * 5):
            card = card_with(FULL, history)
            other = card.fork()
            self.assertIsInstance(other, Card)
            self.assertIsNot(other, card)
            self.assertLike(other, FULL, history)
            self.assertLike(card, FULL, history)

    def test_changes_do_not_show_in_the_other_one(self):
        changes = (lambda card: card.tap("a"), lambda card: card.tap("."), lambda card: card.missed(0, "c"),
                   lambda card: card.wrong(0), lambda card: card.missed(3, "a"))
        for change in changes:
            card = card_with(FULL, "ac.")
            other = card.fork()
            change(card)
            self.assertLike(other, FULL, "ac.")
            card = card_with(FULL, "ac.")
            other = card.fork()
            change(other)
            self.assertLike(card, FULL, "ac.")
            self.assertNotEqual(other.history, "ac.")

    def test_forks_of_forks(self):
        cards = [card_with(FULL, "a")]
        for letter in "c.a":
            cards.append(cards[-1].fork())
            cards[-1].tap(letter)
        for card, history in zip(cards, ("a", "ac", "ac.", "ac.a")):
            self.assertLike(card, FULL, history)
        self.assertEqual(cards[3].wrong(0), FULL.cost("c.a") - FULL.cost("ac.a"))
        self.assertLike(cards[0], FULL, "a")
        self.assertLike(cards[3], FULL, "c.a")

    def test_two_cards_of_one_system(self):
        first, second = Card(FULL), Card(FULL)
        first.tap("a")
        self.assertLike(second, FULL, "")

    def test_a_fork_behind_a_change(self):
        model = Model(2, {"a": (3, 5)}, peak=(1,), transfer=(1, 1), bonus=2)
        system = System.parse(model.text())
        card = card_with(system, "a.a")
        card.missed(1, "a")
        other = card.fork()
        self.assertEqual([other.tap(letter) for letter in ".a."], model.costs("aa.a.a.")[4:])
        self.assertLike(card, system, "aa.a")
        self.assertLike(other, system, "aa.a.a.")


if __name__ == "__main__":
    unittest.main()
