import itertools
import random
import unittest

from tests.account import Account, all_histories, random_accounts
from tests.model import Model, random_history, random_models
from trickfares.errors import TooLarge, UnknownLetter
from trickfares.fares import System
from trickfares.machines import states
from trickfares.sharing import cheapest

BONUS = System.parse("slots 1\nride a 4 4\nride b 2 2\nbonus 3")

# Systems with 80 and more states in each slot, and histories for which many choices of states have to be kept.
LARGE = (
    ("slots 1\nride m 3 5\nride y 6 18\nride z 11 4\ntransfer 1 8\ncap 19\nbonus 4",
     "yy.mzmz.ymm..z.m.yym.ymyzmyzzymmmmzzymyzzyymm.ymmm.y.mzy.yzz"),
    ("slots 1\nride a 1 1\nride b 2 2\nride c 3 3\ncap 20\nbonus 4", "aabc" * 15),
    ("slots 1\nride a 2 8\nride b 1 9\nride z 6 0\ncap 20\nbonus 4",
     "zzbzabab.azbbababazzbbazabbzbbabbbaaba.zzabzbababzaaaa.zzzzz"),
)


def parts_of(history, numbers, cards):
    """The histories of so many cards, by the card's number for each ride."""
    left = iter(numbers)
    owners = ["all" if letter == "." else next(left) for letter in history]
    parts = []
    for card in range(1, cards + 1):
        parts.append("".join(letter for letter, owner in zip(history, owners) if owner in ("all", str(card))))
    return parts


def all_sharings(history, cards):
    rides = len(history) - history.count(".")
    for numbers in itertools.product("123"[:cards], repeat=rides):
        yield "".join(numbers)


def least_by_all_sharings(account, history, cards):
    return min(sum(account.cost(0, part) for part in parts_of(history, numbers, cards))
               for numbers in all_sharings(history, cards))


def least_by_ordered_states(account, history, cards):
    """The same for long histories: the least cost for each tuple of the states of the cards, whichever they are."""
    known = {(0,) * cards: 0}
    for letter in history:
        behind = {}
        for on, total in known.items():
            if letter == ".":
                moved = [(tuple(account.after(state, ".") for state in on), total)]
            else:
                moved = []
                for card in range(cards):
                    state, cost = account.run(on[card], letter)
                    moved.append((on[:card] + (state,) + on[card + 1:], total + cost))
            for key, cost in moved:
                behind[key] = min(cost, behind.get(key, cost))
        known = behind
    return min(known.values())


class CheapestTest(unittest.TestCase):
    def assertShared(self, system, history, cards):
        """Checks all but that the cost is the least one; returns the cost."""
        told = cheapest(system, history, cards)
        self.assertEqual([type(told)] + [type(part) for part in told], [tuple, int, str])
        total, numbers = told
        self.assertEqual(len(numbers), len(history) - history.count("."))
        self.assertEqual([number for number in numbers if number not in "123"[:cards]], [])
        self.assertEqual(sum(system.cost(part) for part in parts_of(history, numbers, cards)), total,
                         (str(system), history, numbers))
        return total

    def assertTold(self, system, history, expected):
        self.assertEqual([self.assertShared(system, history, cards) for cards in (1, 2, 3)], expected)

    def test_the_example(self):
        self.assertTold(BONUS, "aaba", [12, 10, 10])

    def test_a_bonus_ride_for_each_card(self):
        system = System.parse("slots 1\nride a 9 9\nride b 1 1\nbonus 2")
        self.assertTold(system, "ab", [9, 9, 9])
        self.assertTold(system, "ba", [1, 1, 1])
        self.assertTold(system, "aabb", [10, 10, 10])
        self.assertTold(system, "abba", [10, 10, 10])
        self.assertTold(system, "aab", [10, 10, 10])
        self.assertTold(system, "bbaa", [10, 2, 2])
        self.assertTold(system, "bbbaaa", [11, 11, 3])
        self.assertTold(system, "bbabbaa", [20, 12, 4])

    def test_transfers_and_caps_are_for_one_card(self):
        self.assertTold(System.parse("slots 1\nride a 4 4\ntransfer 0 1"), "aaa", [6, 6, 6])
        self.assertTold(System.parse("slots 2\nride a 4 4\ncap 6"), "aaa.a..a", [10, 10, 10])

    def test_a_full_ride_at_the_right_time(self):
        # With one card the bonus ride is the second one; a second card takes this and leaves it for the peak slot.
        system = System.parse("slots 2\npeak 1\nride a 2 9\nbonus 2")
        self.assertTold(system, "a.a", [2, 2, 2])
        self.assertTold(system, "aa.a", [11, 4, 4])

    def test_points_move_all_cards(self):
        system = System.parse("slots 2\npeak 0\nride a 9 1\nbonus 2")
        self.assertTold(system, "aa.aa", [10, 2, 2])
        system = System.parse("slots 1\nride a 5 5\ntransfer 0 0")
        self.assertTold(system, "a.a.a", [15, 15, 15])
        system = System.parse("slots 1\nride a 5 5\ncap 7")
        self.assertTold(system, "aaa.aaa", [14, 14, 14])

    def test_histories_without_rides(self):
        for history in ("", ".", "." * 60):
            for cards in (1, 2, 3):
                self.assertEqual(cheapest(BONUS, history, cards), (0, ""))

    def test_a_single_ride(self):
        for cards in (1, 2, 3):
            self.assertShared(BONUS, "..a.", cards)
            self.assertEqual(cheapest(BONUS, "..b.", cards)[0], 2)

    def test_all_sharings_of_all_short_histories(self):
        models = (
            Model(1, {"a": (4, 4), "b": (2, 2)}, bonus=2), Model(2, {"a": (3, 5), "b": (1, 0)}, peak=(1,), bonus=3),
            Model(1, {"a": (4, 4), "b": (2, 2)}, transfer=(0, 1), bonus=2), Model(2, {"a": (3, 3)}, transfer=(1, 1), bonus=2),
            Model(2, {"a": (2, 2), "b": (5, 5)}, cap=6, bonus=2),
        )
        better = 0
        for model in models:
            account = Account(model)
            system = System.parse(model.text())
            for history in all_histories(model.letters, 5):
                expected = [least_by_all_sharings(account, history, cards) for cards in (1, 2, 3)]
                self.assertTold(system, history, expected)
                better += expected[0] > expected[1]
        self.assertGreater(better, 100)

    def test_all_sharings_of_random_histories(self):
        chance = random.Random(101)
        better = 0
        for model in random_models(102, 150, small=True):
            if chance.random() < 0.6:
                model.cap = None
                model.bonus = 2
            account = Account(model)
            system = System.parse(model.text())
            for _ in range(3):
                history = random_history(chance, model.letters + model.letters[:-1], 7)
                expected = [least_by_all_sharings(account, history, cards) for cards in (1, 2, 3)]
                self.assertTold(system, history, expected)
                better += expected[0] > expected[2]
        self.assertGreater(better, 15)

    def test_60_letters_and_points(self):
        chance = random.Random(103)
        better = [0, 0]
        for account in random_accounts(104, 40, 500):
            system = System.parse(account.model.text())
            history = "".join(chance.choice(account.letters + account.letters[:-1]) for _ in range(60))
            expected = [least_by_ordered_states(account, history, cards) for cards in (1, 2, 3)]
            self.assertTold(system, history, expected)
            self.assertEqual(expected[0], system.cost(history))
            better[0] += expected[0] > expected[1]
            better[1] += expected[1] > expected[2]
        self.assertGreater(min(better), 5)

    def test_large_systems(self):
        for text, history in LARGE:
            system = System.parse(text)
            self.assertGreaterEqual(len(states(system)), 80)
            self.assertEqual(len(history), 60)
            costs = [self.assertShared(system, history, cards) for cards in (1, 2, 3)]
            self.assertEqual(costs[0], system.cost(history))
            self.assertEqual(costs, sorted(costs, reverse=True))

    def test_more_cards_never_cost_more(self):
        chance = random.Random(105)
        for model in random_models(106, 40):
            system = System.parse(model.text())
            history = "".join(chance.choice(model.letters) for _ in range(20))
            costs = [self.assertShared(system, history, cards) for cards in (1, 2, 3)]
            self.assertEqual(costs[0], system.cost(history))
            self.assertEqual(costs, sorted(costs, reverse=True), (str(system), history))

    def test_the_system_does_not_change(self):
        before = dict(vars(BONUS))
        self.assertEqual(cheapest(BONUS, "aaba", 3), cheapest(BONUS, "aaba", 3))
        self.assertEqual(vars(BONUS), before)


class ErrorTest(unittest.TestCase):
    def assertUnknown(self, history, place):
        for cards in (1, 2, 3):
            with self.assertRaises(UnknownLetter) as caught:
                cheapest(BONUS, history, cards)
            self.assertEqual(caught.exception.place, place)

    def test_the_first_character_that_is_no_letter(self):
        self.assertUnknown("c", 0)
        self.assertUnknown("ab.ac.d", 4)
        for character in "A 1\n~,c":
            self.assertUnknown("a." + character + "a", 2)

    def test_too_many_letters_and_points(self):
        for history in ("a" * 61, "." * 61, "ab." * 20 + "b", "a" * 1000):
            for cards in (1, 2, 3):
                with self.assertRaises(TooLarge) as caught:
                    cheapest(BONUS, history, cards)
                self.assertEqual(caught.exception.bound, 60)

    def test_unknown_letters_come_first(self):
        self.assertUnknown("a" * 60 + "c", 60)
        self.assertUnknown("c" + "a" * 60, 0)
        self.assertUnknown("ab" * 100 + "." * 50 + "xyz", 250)

    def test_60_letters_are_taken(self):
        for history in ("a" * 60, "ab." * 20):
            self.assertEqual(cheapest(BONUS, history, 1), (BONUS.cost(history), "1" * len(history.replace(".", ""))))


class BeyondTest(unittest.TestCase):
    def test_four_cards(self):
        system = System.parse("slots 1\nride a 9 9\nride b 1 1\nbonus 2")
        total, numbers = cheapest(system, "bbbbaaaa", 4)
        self.assertEqual((total, sorted(numbers[:4]), sorted(numbers[4:])), (4, list("1234"), list("1234")))

    def test_no_card(self):
        self.assertEqual(cheapest(BONUS, "..", 0), (0, ""))
        self.assertEqual(cheapest(BONUS, "aaba", 0), cheapest(BONUS, "aaba", 1))

    def test_numbers_beyond_the_bounds(self):
        self.assertEqual(cheapest(BONUS.with_number("price", 25, kind="a"), "aaba", 1)[0], 75)
        self.assertEqual(cheapest(BONUS.with_number("bonus", 5), "aaaaa", 2)[0], 16)


if __name__ == "__main__":
    unittest.main()
