import itertools
import random
import unittest

from tests.account import Account, TRICKS, all_histories, ends_of, random_accounts, trick_moves, without_and_with
from tests.model import Model
from tests.test_nets import longest
from trickfares.errors import TooLarge
from trickfares.fares import System
from trickfares.nets import end_of, gain_of, is_way
from trickfares.tricks import example, gain, histories, trick_net

CHANGES = System.parse("slots 1\nride a 4 4\nride b 2 2\ntransfer 0 1")
RIDE_TRICKS = TRICKS[:3]
STARTS = {"more": (0,), "later": (0,), "earlier": (0,), "cards": (0, 0, 0), "shared": (0, 0, 0)}

# Systems with exactly 600 nodes in the net of a trick, and with 601 or a few more.
TAKEN = {
    "more": ("slots 5\nride y 5 10\nride z 0 5\ncap 16\nbonus 4",
             "slots 3\npeak 0 2\nride a 0 13\nride b 6 8\ncap 18\nbonus 4"),
    "later": ("slots 4\nride m 8 3\ntransfer 4 6\ncap 17", "slots 2\nride y 9 2\ntransfer 2 1\ncap 17"),
    "earlier": ("slots 4\nride m 8 3\ntransfer 4 6\ncap 17", "slots 2\nride y 9 2\ntransfer 2 1\ncap 17"),
    "cards": ("slots 6\nride z 1 1\ncap 9", "slots 6\nride c 1 0\ncap 9"),
    "shared": ("slots 6\nride z 1 1\ncap 9", "slots 6\nride m 2 5\ncap 18"),
}
REFUSED = {
    "more": ("slots 6\nride b 6 8\ntransfer 4 5\ncap 8", "slots 4\nride m 8 3\ntransfer 4 6\ncap 17"),
    "later": ("slots 6\nride m 11 8\ntransfer 1 6\ncap 4\nbonus 3",
              "slots 2\nride m 3 3\ntransfer 0 18\ncap 19\nbonus 4"),
    "earlier": ("slots 6\nride m 11 8\ntransfer 1 6\ncap 4\nbonus 3",
                "slots 4\npeak 1\nride y 7 5\ntransfer 2 19\ncap 20"),
    "cards": ("slots 2\npeak 0\nride c 3 8\ncap 11\nbonus 3", "slots 1\nride a 1 1\ncap 20\nbonus 4"),
    "shared": ("slots 3\npeak 0 1\nride a 2 1\ncap 3\nbonus 3", "slots 1\nride a 1 1\ncap 20\nbonus 4"),
}


def expected_gain(account, trick):
    moves = trick_moves(account, trick)
    best = longest(STARTS[trick], moves, ends_of(moves))
    return None if best is None else best[STARTS[trick]]


def short_gains(account, trick, most):
    """What the trick gains in each way for all histories with at most so many letters."""
    for history in all_histories(account.letters, most):
        cost = account.cost(0, history)
        if trick in RIDE_TRICKS:
            for at in range(len(history) + 1):
                for kind in account.letters[:-1]:
                    without, changed = without_and_with(trick, kind)
                    head, tail = history[:at], history[at:]
                    yield account.cost(0, head + without + tail) - account.cost(0, head + changed + tail)
        else:
            for cards in itertools.product((1, 2), repeat=len(history) - history.count(".")):
                left = list(cards)
                owners = [0 if letter == "." else left.pop() for letter in history]
                parts = ["".join(letter for letter, owner in zip(history, owners) if owner in (0, card))
                         for card in (1, 2)]
                saved = cost - sum(account.cost(0, part) for part in parts)
                yield saved if trick == "cards" else -saved


def random_way(chance, net, most):
    way = []
    for _ in range(chance.randint(0, most)):
        way.append(chance.choice(net.moves[end_of(net.start, way)]))
    while end_of(net.start, way) not in net.ends:
        way.append(chance.choice(net.moves[end_of(net.start, way)]))
    return way


class TrickNetTest(unittest.TestCase):
    def test_more_by_hand(self):
        net = trick_net(CHANGES, "more")
        self.assertEqual((net.start, net.ends), ((0,), [(0, 0), (0, 1), (1, 1)]))
        letters = [("a", 0, (1,)), ("b", 0, (1,)), (".", 0, (0,))]
        self.assertEqual(net.moves, {
            (0,): letters + [(("more", "a"), -4, (0, 1)), (("more", "b"), -2, (0, 1))],
            (1,): letters + [(("more", "a"), -1, (1, 1)), (("more", "b"), -1, (1, 1))],
            (0, 1): [("a", 3, (1, 1)), ("b", 1, (1, 1)), (".", 0, (0, 0))],
            (1, 1): [("a", 0, (1, 1)), ("b", 0, (1, 1)), (".", 0, (0, 0))],
            (0, 0): [("a", 0, (1, 1)), ("b", 0, (1, 1)), (".", 0, (0, 0))],
        })

    def test_later_and_earlier_by_hand(self):
        letters = [("a", 0, (1,)), ("b", 0, (1,)), (".", 0, (0,))]
        both = {(0, 0): [("a", 0, (1, 1)), ("b", 0, (1, 1)), (".", 0, (0, 0))],
                (1, 1): [("a", 0, (1, 1)), ("b", 0, (1, 1)), (".", 0, (0, 0))]}
        net = trick_net(CHANGES, "later")
        self.assertEqual((net.start, net.ends), ((0,), [(0, 0), (0, 1), (1, 1)]))
        self.assertEqual(net.moves, {
            (0,): letters + [(("later", "a"), 0, (0, 1)), (("later", "b"), 0, (0, 1))],
            (1,): letters + [(("later", "a"), -3, (0, 1)), (("later", "b"), -1, (0, 1))],
            (0, 1): [("a", 3, (1, 1)), ("b", 1, (1, 1)), (".", 0, (0, 0))], **both})
        net = trick_net(CHANGES, "earlier")
        self.assertEqual((net.start, net.ends), ((0,), [(0, 0), (1, 0), (1, 1)]))
        self.assertEqual(net.moves, {
            (0,): letters + [(("earlier", "a"), 0, (1, 0)), (("earlier", "b"), 0, (1, 0))],
            (1,): letters + [(("earlier", "a"), 3, (1, 0)), (("earlier", "b"), 1, (1, 0))],
            (1, 0): [("a", -3, (1, 1)), ("b", -1, (1, 1)), (".", 0, (0, 0))], **both})

    def test_cards_by_hand(self):
        system = System.parse("slots 1\nride a 4 4\ntransfer 0 1")
        for trick, sign in (("cards", 1), ("shared", -1)):
            net = trick_net(system, trick)
            ends = [(0, 0, 0), (1, 0, 1), (1, 1, 0), (1, 1, 1)]
            self.assertEqual((net.start, net.ends), ((0, 0, 0), ends))
            point = (".", 0, (0, 0, 0))
            self.assertEqual(net.moves, {
                (0, 0, 0): [(("a", 1), 0, (1, 1, 0)), (("a", 2), 0, (1, 0, 1)), point],
                (1, 0, 1): [(("a", 1), sign * -3, (1, 1, 1)), (("a", 2), 0, (1, 0, 1)), point],
                (1, 1, 0): [(("a", 1), 0, (1, 1, 0)), (("a", 2), sign * -3, (1, 1, 1)), point],
                (1, 1, 1): [(("a", 1), 0, (1, 1, 1)), (("a", 2), 0, (1, 1, 1)), point],
            })

    def test_nodes_that_are_not_reached(self):
        net = trick_net(System.parse("slots 2\nride a 4 4\nbonus 2"), "more")
        self.assertEqual(net.ends, [(0, 1), (1, 0), (2, 3), (3, 2)])
        self.assertEqual(sorted(net.moves), [(0,), (0, 1), (1,), (1, 0), (2,), (2, 3), (3,), (3, 2)])
        net = trick_net(System.parse("slots 3\nride a 4 4"), "later")
        self.assertEqual(sorted(net.moves), [(0,), (0, 0), (1,), (1, 1), (2,), (2, 2)])
        net = trick_net(System.parse("slots 3\nride a 4 4"), "cards")
        self.assertEqual(sorted(net.moves), [(0, 0, 0), (1, 1, 1), (2, 2, 2)])

    def test_the_order_of_moves_with_three_kinds(self):
        system = System.parse("slots 1\nride a 1 1\nride m 2 2\nride z 3 3")
        for trick in RIDE_TRICKS:
            labels = [move[0] for move in trick_net(system, trick).moves[(0,)]]
            self.assertEqual(labels, ["a", "m", "z", ".", (trick, "a"), (trick, "m"), (trick, "z")])
            self.assertEqual([move[0] for move in trick_net(system, trick).moves[(0, 0)]], ["a", "m", "z", "."])
        for trick in TRICKS[3:]:
            labels = [move[0] for move in trick_net(system, trick).moves[(0, 0, 0)]]
            self.assertEqual(labels, [("a", 1), ("a", 2), ("m", 1), ("m", 2), ("z", 1), ("z", 2), "."])

    def test_random_systems_against_the_account(self):
        for account in random_accounts(61, 60, 150):
            system = System.parse(account.model.text())
            for trick in TRICKS:
                net = trick_net(system, trick)
                moves = trick_moves(account, trick)
                self.assertEqual(net.start, STARTS[trick])
                self.assertEqual(net.moves, moves, (str(system), trick))
                self.assertEqual(net.ends, ends_of(moves))
                self.assertEqual({type(net.moves), type(net.ends), type(net.moves[net.start])}, {dict, list})
                self.assertEqual({type(move) for node in net.moves for move in net.moves[node]}, {tuple})

    def test_told_lists_and_dicts_are_new(self):
        for trick in TRICKS:
            net = trick_net(CHANGES, trick)
            again = trick_net(CHANGES, trick)
            net.moves[net.start].clear()
            net.ends.clear()
            for node in list(net.moves):
                net.moves[node].append(1)
            net.moves.clear()
            later = trick_net(CHANGES, trick)
            self.assertEqual((later.moves, later.ends), (again.moves, again.ends))

    def test_arguments_are_not_changed(self):
        system = System.parse(str(CHANGES))
        before = dict(vars(system))
        for trick in TRICKS:
            for asked in (trick_net, gain, example):
                asked(system, trick)
                self.assertEqual(vars(system), before)

    def test_600_nodes_are_taken(self):
        for trick in TRICKS:
            for text in TAKEN[trick]:
                system = System.parse(text)
                net = trick_net(system, trick)
                self.assertEqual(len(net.moves), 600, (trick, text))
                told = gain(system, trick)
                self.assertEqual(example(system, trick) is None, told is not None and told <= 0)

    def test_601_nodes_are_not(self):
        for trick in TRICKS:
            for text in REFUSED[trick]:
                for asked in (trick_net, gain, example):
                    with self.assertRaises(TooLarge) as caught:
                        asked(System.parse(text), trick)
                    self.assertEqual(caught.exception.bound, 600)


class GainTest(unittest.TestCase):
    def gains(self, text):
        return [gain(System.parse(text), trick) for trick in TRICKS]

    def test_by_hand(self):
        self.assertEqual(self.gains("slots 1\nride a 4 4"), [-4, 0, 0, 0, 0])
        self.assertEqual(self.gains("slots 1\nride a 0 0"), [0, 0, 0, 0, 0])
        self.assertEqual(self.gains("slots 2\npeak 1\nride a 4 9"), [-4, 5, 5, 0, 0])
        self.assertEqual(self.gains(str(CHANGES)), [1, 3, 3, 0, None])

    def test_a_ride_more_that_changes_which_rides_are_free(self):
        self.assertEqual(gain(System.parse("slots 1\nride a 4 4\nbonus 2"), "more"), 0)
        self.assertEqual(gain(System.parse("slots 1\nride a 9 9\nride b 1 1\nbonus 2"), "more"), None)
        self.assertEqual(gain(System.parse("slots 1\nride a 9 9\nride b 1 1\ncap 9"), "more"), 0)

    def test_a_gain_below_0(self):
        self.assertEqual(gain(System.parse("slots 1\nride a 7 7\nride b 5 5"), "more"), -5)
        self.assertEqual(gain(System.parse("slots 1\nride a 7 7\nride b 5 5\ntransfer 0 4"), "more"), -2)
        self.assertEqual(gain(System.parse("slots 8\npeak 0 1 2 3 4 5 6\nride a 6 9"), "more"), -6)
        self.assertEqual(gain(System.parse("slots 8\npeak 7\nride a 20 1"), "more"), -1)

    def test_later_and_earlier_are_never_below_0(self):
        # Without a ride before it, a ride is brought through all slots of a day, and its prices come back.
        for account in random_accounts(62, 60, 100):
            for trick in ("later", "earlier"):
                told = gain(System.parse(account.model.text()), trick)
                self.assertTrue(told is None or told >= 0)

    def test_no_bound(self):
        self.assertIsNone(gain(CHANGES, "shared"))
        self.assertIsNone(gain(System.parse("slots 1\nride a 4 4\nride b 2 2\nbonus 2"), "cards"))
        self.assertIsNone(gain(System.parse("slots 2\nride a 4 4\ncap 4"), "shared"))

    def test_random_systems_against_all_short_histories(self):
        found = {}
        for account in random_accounts(63, 90, 60):
            system = System.parse(account.model.text())
            for trick in TRICKS:
                told = gain(system, trick)
                self.assertEqual(told, expected_gain(account, trick), (str(system), trick))
                kind = None if told is None else max(-1, min(1, told))
                found[(trick, kind)] = found.get((trick, kind), 0) + 1
                if told is not None and len(account.letters) < 4:
                    self.assertLessEqual(max(short_gains(account, trick, 4)), told, (str(system), trick))
        for key in (("more", None), ("more", -1), ("more", 0), ("more", 1), ("later", 0), ("later", 1), ("earlier", 0),
                    ("earlier", 1), ("cards", None), ("cards", 0), ("shared", None), ("shared", 0), ("shared", 1)):
            self.assertGreater(found.get(key, 0), 0, (key, found))

    def test_the_gain_is_reached_by_short_histories(self):
        models = (
            Model(1, {"a": (4, 4), "b": (2, 2)}, transfer=(0, 1)), Model(2, {"a": (4, 7)}, peak=(1,)),
            Model(1, {"a": (3, 3)}, transfer=(1, 1)), Model(2, {"a": (3, 3)}, cap=4), Model(1, {"a": (5, 5)}, bonus=2),
            Model(1, {"a": (6, 6), "b": (5, 5)}), Model(2, {"a": (2, 3)}, peak=(0,), transfer=(0, 2)),
        )
        many = 0
        for model in models:
            account = Account(model)
            for trick in TRICKS:
                told = gain(System.parse(model.text()), trick)
                if told is not None:
                    self.assertEqual(max(short_gains(account, trick, 5)), told, (model.text(), trick))
                    many += 1
        self.assertGreater(many, 25)


class ExampleTest(unittest.TestCase):
    def assertExample(self, system, trick):
        way = example(system, trick)
        told = gain(system, trick)
        self.assertEqual(way is None, told is not None and told <= 0, (str(system), trick))
        if way is not None:
            net = trick_net(system, trick)
            self.assertIs(is_way(net, net.start, way), True)
            self.assertIn(end_of(net.start, way), net.ends)
            self.assertGreater(gain_of(way), 0)
            if told is not None:
                self.assertLessEqual(gain_of(way), told)
        return None if way is None else told is None

    def test_by_hand(self):
        for trick in TRICKS:
            self.assertIs(self.assertExample(CHANGES, trick), {"cards": None, "shared": True}.get(trick, False))
            self.assertIsNone(example(System.parse("slots 1\nride a 4 4"), trick))
            self.assertIsNone(example(System.parse("slots 3\nride a 0 0\nride b 0 0\nbonus 2"), trick))

    def test_no_bound_but_losses_on_the_way(self):
        # The ride more costs 20 at once, and each second free ride of 20 in place of one of 19 brings back one.
        system = System.parse("slots 1\nride a 20 20\nride b 19 19\nbonus 2")
        self.assertIsNone(gain(system, "more"))
        self.assertTrue(self.assertExample(system, "more"))

    def test_random_systems(self):
        found = set()
        for account in random_accounts(64, 100, 150):
            for trick in TRICKS:
                found.add((trick, self.assertExample(System.parse(account.model.text()), trick)))
        for trick in TRICKS:
            self.assertIn((trick, None), found)
        for key in (("more", False), ("more", True), ("later", False), ("earlier", False), ("cards", True),
                    ("shared", False), ("shared", True)):
            self.assertIn(key, found)

    def test_new_lists_each_time(self):
        example(CHANGES, "more").clear()
        self.assertTrue(example(CHANGES, "more"))


class HistoriesTest(unittest.TestCase):
    def test_by_hand(self):
        way = [("a", 0, (1,)), (".", 0, (0,)), (("later", "b"), 0, (0, 1)), (".", 0, (0, 0)), ("a", 0, (1, 1))]
        self.assertEqual(histories(CHANGES, "later", way), ("a.b..a", ["a..b.a"]))
        way = [(("earlier", "b"), 0, (1, 0)), ("a", -3, (1, 1))]
        self.assertEqual(histories(CHANGES, "earlier", way), (".ba", ["b.a"]))
        way = [("b", 0, (1,)), (("more", "a"), -1, (1, 1)), ("b", 0, (1, 1)), (".", 0, (0, 0))]
        self.assertEqual(histories(CHANGES, "more", way), ("bb.", ["bab."]))
        way = [(("a", 1), 0, (1, 1, 0)), (("b", 2), -1, (1, 1, 1)), (".", 0, (0, 0, 0)), (("b", 2), 0, (1, 0, 1))]
        self.assertEqual(histories(CHANGES, "cards", way), ("ab.b", ["a.", "b.b"]))
        way = [(("a", 1), 0, (1, 1, 0)), (("b", 2), 1, (1, 1, 1)), (".", 0, (0, 0, 0)), (("b", 2), 0, (1, 0, 1))]
        self.assertEqual(histories(CHANGES, "shared", way), (["a.", "b.b"], ["ab.b"]))

    def test_one_move(self):
        self.assertEqual(histories(CHANGES, "more", [(("more", "a"), -4, (0, 1))]), ("", ["a"]))
        self.assertEqual(histories(CHANGES, "later", [(("later", "a"), 0, (0, 1))]), ("a.", [".a"]))
        self.assertEqual(histories(CHANGES, "earlier", [(("earlier", "a"), 0, (1, 0))]), (".a", ["a."]))
        self.assertEqual(histories(CHANGES, "cards", [(".", 0, (0, 0, 0))]), (".", [".", "."]))
        self.assertEqual(histories(CHANGES, "cards", [(("b", 2), 0, (1, 0, 1))]), ("b", ["", "b"]))
        self.assertEqual(histories(CHANGES, "shared", [(("b", 1), 0, (1, 1, 0))]), (["b", ""], ["b"]))

    def test_the_way_without_moves(self):
        self.assertEqual(histories(CHANGES, "cards", []), ("", ["", ""]))
        self.assertEqual(histories(CHANGES, "shared", []), (["", ""], [""]))

    def test_random_ways(self):
        chance = random.Random(65)
        losses = set()
        for account in random_accounts(66, 40, 150):
            system = System.parse(account.model.text())
            for trick in TRICKS:
                net = trick_net(system, trick)
                for _ in range(6):
                    way = random_way(chance, net, 25)
                    before = list(way)
                    told = histories(system, trick, way)
                    self.assertEqual(way, before)
                    self.assertEqual((type(told), len(told), type(told[1])), (tuple, 2, list))
                    without, changed = ([part] if isinstance(part, str) else part for part in told)
                    self.assertEqual(type(told[0]), list if trick == "shared" else str)
                    lengths = {"cards": (1, 2), "shared": (2, 1)}.get(trick, (1, 1))
                    self.assertEqual((len(without), len(changed)), lengths)
                    costs = [sum(system.cost(each) for each in group) for group in (without, changed)]
                    self.assertEqual(costs[0] - costs[1], gain_of(way), (str(system), trick, way))
                    self.assertShape(trick, way, without, changed)
                    if gain_of(way) < 0:
                        losses.add(trick)
        self.assertEqual(losses, set(TRICKS))

    def assertShape(self, trick, way, without, changed):
        if trick in RIDE_TRICKS:
            at = [isinstance(move[0], tuple) for move in way].index(True)
            head, tail = ("".join(move[0] for move in part) for part in (way[:at], way[at + 1:]))
            texts = without_and_with(trick, way[at][0][1])
            self.assertEqual([without[0], changed[0]], [head + text + tail for text in texts])
        else:
            whole, cards = (without[0], changed) if trick == "cards" else (changed[0], without)
            self.assertEqual(whole, "".join(move[0][0] for move in way))
            for card, history in enumerate(cards):
                self.assertEqual(history, "".join(
                    move[0][0] for move in way if isinstance(move[0], str) or move[0][1] == card + 1))

    def test_long_ways(self):
        net = trick_net(CHANGES, "cards")
        way = [net.moves[(0, 0, 0)][0]] + [net.moves[(1, 1, 0)][0]] * 40000
        self.assertEqual(histories(CHANGES, "cards", way), ("a" * 40001, ["a" * 40001, ""]))

    def test_examples_are_histories_that_pay(self):
        for account in random_accounts(67, 60, 100):
            system = System.parse(account.model.text())
            for trick in TRICKS:
                way = example(system, trick)
                if way is not None:
                    without, changed = histories(system, trick, way)
                    without = [without] if isinstance(without, str) else without
                    self.assertGreater(sum(map(system.cost, without)), sum(map(system.cost, changed)))


if __name__ == "__main__":
    unittest.main()
