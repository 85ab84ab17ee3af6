import math
import unittest

from tests.account import Account, all_histories, pair_moves, random_pairs
from tests.model import Model
from tests.test_nets import longest
from trickfares.compare import most_dearer, net_of
from trickfares.errors import NoFactor, NotComparable, TooLarge
from trickfares.factors import factor, factor_constant, factor_trip
from trickfares.fares import System
from trickfares.nets import end_of, is_way

ASKED = (factor, factor_constant, factor_trip)

# Pairs whose net has 600 nodes, with and without a factor, and pairs without one whose net has more.
TAKEN = (
    ("slots 5\nride b 1 19\ncap 14", "slots 8\nride b 11 0"),
    ("slots 5\nride m 1 5\ncap 19", "slots 3\nride m 0 4\nbonus 2"),
    ("slots 5\nride b 1 19\ncap 14", "slots 8\nride b 0 0"),
)
REFUSED = (
    ("slots 3\nride y 5 18\ncap 17\nbonus 4", "slots 2\nride y 4 0\ntransfer 2 2\ncap 3"),
    ("slots 5\nride a 6 6\ncap 20\nbonus 4", "slots 7\nride a 0 0"),
)


def systems_of(pair):
    return [System.parse(account.model.text()) for account in pair]


def weighed(pair, p, q):
    """The moves of the net of two accounts with the gains of q times the first cost less p times the second one."""
    moves = {}
    for node, told in pair_moves(*pair).items():
        costs = [(pair[0].cost(node[0], move[0]), pair[1].cost(node[1], move[0])) for move in told]
        moves[node] = [(move[0], q * cost - p * other, move[2]) for move, (cost, other) in zip(told, costs)]
    return moves


def expected_constant(pair, p, q):
    """The least K for a factor p / q, or None if it is none."""
    moves = weighed(pair, p, q)
    best = longest((0, 0), moves, sorted(moves))
    return None if best is None else best[(0, 0)]


class FactorCase(unittest.TestCase):
    def trip_costs(self, first, second, evidence):
        """What a round trip costs in both systems behind the way to it, told by their histories."""
        self.assertEqual([type(part) for part in evidence], [list, list])
        way, round_trip = evidence
        net = net_of(first, second)
        node = end_of(net.start, way)
        self.assertIs(is_way(net, net.start, way), True)
        self.assertIs(is_way(net, node, round_trip), True)
        self.assertEqual(end_of(node, round_trip), node)
        head = "".join(move[0] for move in way)
        whole = head + "".join(move[0] for move in round_trip)
        return first.cost(whole) - first.cost(head), second.cost(whole) - second.cost(head)

    def assertFactor(self, first, second, p, q, constant):
        self.assertEqual(factor(first, second), (p, q), (str(first), str(second)))
        self.assertIs(type(factor(first, second)), tuple)
        self.assertEqual(factor_constant(first, second), constant)
        evidence = factor_trip(first, second)
        if p == 0:
            self.assertIsNone(evidence)
        else:
            self.assertIs(type(evidence), tuple)
            cost, other = self.trip_costs(first, second, evidence)
            self.assertEqual(q * cost, p * other)
            self.assertGreater(other, 0)

    def assertNone(self, first, second):
        for asked in ASKED:
            with self.assertRaises(NoFactor) as caught:
                asked(first, second)
            cost, other = self.trip_costs(first, second, (caught.exception.way, caught.exception.round_trip))
            self.assertEqual(other, 0)
            self.assertGreater(cost, 0)


class ByHandTest(FactorCase):
    def assertTold(self, one, other, p, q, constant):
        self.assertFactor(System.parse(one), System.parse(other), p, q, constant)

    def test_prices(self):
        self.assertTold("slots 1\nride a 4 4", "slots 1\nride a 4 4", 1, 1, 0)
        self.assertTold("slots 1\nride a 6 6", "slots 1\nride a 4 4", 3, 2, 0)
        self.assertTold("slots 1\nride a 4 4", "slots 1\nride a 6 6", 2, 3, 0)
        self.assertTold("slots 1\nride a 20 20", "slots 1\nride a 1 1", 20, 1, 0)
        self.assertTold("slots 1\nride a 1 1", "slots 1\nride a 20 20", 1, 20, 0)
        self.assertTold("slots 1\nride a 4 4\nride b 5 5", "slots 1\nride a 6 6\nride b 6 6", 5, 6, 0)
        self.assertTold("slots 2\npeak 1\nride a 4 7", "slots 1\nride a 5 5", 7, 5, 0)

    def test_bonuses(self):
        self.assertTold("slots 1\nride a 4 4\nbonus 2", "slots 1\nride a 4 4", 1, 2, 4)
        self.assertTold("slots 1\nride a 4 4", "slots 1\nride a 4 4\nbonus 2", 2, 1, 0)
        self.assertTold("slots 1\nride a 6 6\nbonus 3", "slots 1\nride a 6 6\nbonus 2", 4, 3, 12)
        self.assertTold("slots 1\nride a 6 6\nbonus 3", "slots 1\nride a 4 4", 1, 1, 4)

    def test_caps(self):
        self.assertTold("slots 1\nride a 4 4\ncap 6", "slots 1\nride a 4 4\ncap 4", 3, 2, 0)
        self.assertTold("slots 1\nride a 4 4\ncap 4", "slots 1\nride a 4 4\ncap 6", 1, 1, 0)
        self.assertTold("slots 1\nride a 4 4\ncap 4", "slots 1\nride a 4 4", 1, 1, 0)
        self.assertTold("slots 1\nride a 0 0\nride b 3 3\ncap 7", "slots 1\nride a 0 0\nride b 2 2\ncap 4", 7, 4, 0)

    def test_a_factor_of_0(self):
        self.assertTold("slots 1\nride a 0 0", "slots 1\nride a 4 4", 0, 1, 0)
        self.assertTold("slots 1\nride a 0 0", "slots 1\nride a 0 0", 0, 1, 0)
        self.assertTold("slots 2\nride a 7 7\ncap 0", "slots 3\nride a 0 0\nbonus 2", 0, 1, 0)

    def test_no_factor(self):
        for one, other in (
            ("slots 1\nride a 1 1", "slots 1\nride a 0 0"),
            ("slots 1\nride a 4 4", "slots 1\nride a 4 4\ncap 4"),
            ("slots 8\npeak 7\nride a 0 1", "slots 8\npeak 1 2\nride a 0 20"),
            ("slots 1\nride a 4 4\nride b 1 1", "slots 1\nride a 4 4\nride b 0 0"),
            ("slots 1\nride a 4 4\ntransfer 1 3", "slots 1\nride a 4 4\ntransfer 1 0"),
            ("slots 1\nride a 4 4\nride b 4 4\nbonus 2", "slots 1\nride a 9 9\nride b 0 0"),
        ):
            self.assertNone(System.parse(one), System.parse(other))

    def test_a_system_against_itself(self):
        for pair in random_pairs(71, 30, 40):
            for system in systems_of(pair):
                p = 1 if factor(system, system) != (0, 1) else 0
                self.assertFactor(system, system, p, 1, 0)

    def test_the_constant_counts_q_times(self):
        self.assertTold("slots 1\nride a 20 20\nbonus 4", "slots 1\nride a 16 16", 15, 16, 240)


class RandomTest(FactorCase):
    def test_random_systems(self):
        found = {"no": 0, "zero": 0, "more": 0, "constant": 0}
        for pair in random_pairs(72, 200, 60):
            first, second = systems_of(pair)
            try:
                p, q = factor(first, second)
            except NoFactor:
                found["no"] += 1
                self.assertNone(first, second)
                continue
            self.assertEqual((type(p), type(q), math.gcd(p, q)), (int, int, 1))
            self.assertGreaterEqual(min(p, q - 1), 0)
            # The constant shows that it is a factor, and the round trip that there is none below it.
            constant = expected_constant(pair, p, q)
            self.assertIsNotNone(constant)
            self.assertFactor(first, second, p, q, constant)
            found["zero" if p == 0 else "more"] += 1
            found["constant"] += constant > 0
            for history in all_histories(first.letters, 4):
                excess = q * pair[0].cost(0, history) - p * pair[1].cost(0, history)
                self.assertLessEqual(excess, constant)
        self.assertGreater(min(found.values()), 10, found)

    def test_some_history_reaches_the_constant(self):
        models = ((Model(1, {"a": (4, 4)}, bonus=2), Model(1, {"a": (4, 4)})),
                  (Model(1, {"a": (6, 6)}, bonus=3), Model(1, {"a": (6, 6)}, bonus=2)),
                  (Model(1, {"a": (3, 3), "b": (1, 1)}, bonus=2), Model(1, {"a": (3, 3), "b": (2, 2)}, bonus=3)),
                  (Model(2, {"a": (3, 4)}, peak=(1,)), Model(1, {"a": (5, 5)}, transfer=(0, 4))))
        for one, other in models:
            pair = Account(one), Account(other)
            first, second = systems_of(pair)
            p, q = factor(first, second)
            told = max(q * one.cost(0, history) - p * two.cost(0, history)
                       for one, two in (pair,) for history in all_histories(first.letters, 7))
            self.assertEqual(factor_constant(first, second), told)

    def test_never_dearer_systems_have_a_factor_of_at_most_1(self):
        many = 0
        for pair in random_pairs(73, 60, 60):
            first, second = systems_of(pair)
            if most_dearer(first, second) is not None:
                p, q = factor(first, second)
                self.assertLessEqual(p, q)
                many += 1
        self.assertGreater(many, 20)


class ErrorTest(FactorCase):
    def test_other_letters(self):
        for one, other in (("slots 1\nride a 4 4", "slots 1\nride b 0 0"),
                           ("slots 1\nride a 4 4", "slots 1\nride a 0 0\nride b 4 4"),
                           ("slots 5\nride a 6 6\ncap 20\nbonus 4", "slots 7\nride b 6 6\ncap 20")):
            for asked in ASKED:
                self.assertRaises(NotComparable, asked, System.parse(one), System.parse(other))
                self.assertRaises(NotComparable, asked, System.parse(other), System.parse(one))

    def test_601_nodes(self):
        for one, other in REFUSED:
            for asked in ASKED:
                with self.assertRaises(TooLarge) as caught:
                    asked(System.parse(one), System.parse(other))
                self.assertEqual(caught.exception.bound, 600)

    def test_600_nodes(self):
        found = set()
        for one, other in TAKEN:
            first, second = System.parse(one), System.parse(other)
            self.assertEqual(len(net_of(first, second).moves), 600)
            for left, right in ((first, second), (second, first)):
                try:
                    told = factor(left, right)
                except NoFactor:
                    self.assertNone(left, right)
                    found.add(None)
                    continue
                self.assertFactor(left, right, *told, factor_constant(left, right))
                found.add(told)
        self.assertIn(None, found)
        self.assertIn((0, 1), found)
        self.assertGreater(len(found), 2)

    def test_new_lists_each_time(self):
        first, second = System.parse("slots 1\nride a 6 6"), System.parse("slots 1\nride a 4 4")
        before = factor_trip(first, second)
        for part in factor_trip(first, second):
            part.append(1)
        self.assertEqual(factor_trip(first, second), before)

    def test_arguments_are_not_changed(self):
        first, second = System.parse("slots 1\nride a 6 6"), System.parse("slots 1\nride a 0 0")
        before = dict(vars(first)), dict(vars(second))
        self.assertNone(first, second)
        self.assertFactor(second, first, 0, 1, 0)
        self.assertEqual((vars(first), vars(second)), before)


if __name__ == "__main__":
    unittest.main()
