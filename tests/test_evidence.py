import copy
import itertools
import random
import unittest

from tests.test_nets import random_net
from trickfares.errors import Unbounded
from trickfares.nets import Net, best_way, end_of, gain_of, is_potentials, is_way, potentials

NET = Net((0,), {
    (0,): [("x", 2, (1,)), ("y", 1, (0, 1))],
    (1,): [("y", -3, (0,)), (("x", 1), 0, (1,))],
    (0, 1): [],
}, [(0,), (0, 1), (1,)])
GOOD = {(0,): 2, (1,): 0, (0, 1): 1}


def deep(levels, value):
    for level in range(levels):
        value = [[value], (value,), {"k": value}][level % 3]
    return value


def deep_key(levels):
    value = ()
    for _ in range(levels):
        value = (value,)
    return value


ANY_VALUES = [
    None, True, False, 0, 1, -1, 10 ** 50, "", "x", "xy", (), [()], (()), [[]], {}, {1: 2}, [None], [True], [0], ["x"],
    ["xyz"], [("x",)], [("x", 2)], [{}], [{"x": 2}], {(0,): 2}, ((0,), 2), deep(50, 1), deep(49, ()), [deep(49, 1)],
    {deep_key(48): 1}, [("x", 2, deep_key(47))], [("x", 2, deep(47, 1))], [(deep(48, 1), 2, (1,))], {None: None},
    {"x": 1, "y": 2, "z": 3}, {(0,): 2, (1,): 0, "z": 3}, {True: 1, None: 2, (): 3}, {(0,): None, (1,): [], (0, 1): {}},
]


class IsPotentialsTest(unittest.TestCase):
    def assertTold(self, value, expected):
        before = copy.deepcopy(value)
        self.assertIs(is_potentials(NET, value), expected, repr(value))
        self.assertEqual(value, before)

    def test_least_and_greater_ones(self):
        self.assertTold(GOOD, True)
        self.assertTold({(0,): 5, (1,): 2, (0, 1): 3}, True)
        self.assertTold({(0,): 10 ** 30, (1,): 10 ** 30 - 2, (0, 1): 0}, True)
        self.assertTold({(0, 1): 1, (1,): 0, (0,): 2}, True)

    def test_too_small_ones(self):
        self.assertTold({**GOOD, (0,): 1}, False)
        self.assertTold({**GOOD, (0, 1): 2}, False)
        self.assertTold({(0,): 6, (1,): 2, (0, 1): 0}, False)

    def test_below_0_at_an_end(self):
        self.assertTold({(0,): 1, (1,): -1, (0, 1): 0}, False)
        self.assertTold({(0,): 2, (1,): 0, (0, 1): -1}, False)

    def test_below_0_elsewhere(self):
        net = Net((0,), {(0,): [("x", -4, (1,))], (1,): []}, [(1,)])
        for number in range(-6, 2):
            self.assertIs(is_potentials(net, {(0,): number, (1,): 0}), number >= -4)

    def test_a_loop(self):
        for gain in (-1, 0, 1):
            net = Net((0,), {(0,): [("x", gain, (0,))]}, [(0,)])
            for number in (-1, 0, 1, 100):
                self.assertIs(is_potentials(net, {(0,): number}), gain <= 0 <= number)

    def test_missing_and_additional_nodes(self):
        for node in GOOD:
            self.assertTold({key: GOOD[key] for key in GOOD if key != node}, False)
        for key in ((2,), (), "x", 0, None, True, (0, 1, 2), ((0,),)):
            self.assertTold({**GOOD, key: 1}, False)
            self.assertTold({key: 1, (0,): 2, (1,): 0}, False)

    def test_true_and_false_are_not_integers(self):
        self.assertTold({(0,): 3, (1,): True, (0, 1): 0}, False)
        self.assertTold({(0,): 2, (1,): False, (0, 1): 1}, False)
        self.assertTold({(0,): 2, (1,): 0, (0, 1): True}, False)

    def test_nodes_with_true_and_false(self):
        self.assertTold({(False,): 2, (1,): 0, (0, 1): 1}, False)
        self.assertTold({(0,): 2, (True,): 0, (0, 1): 1}, False)
        self.assertTold({(0,): 2, (1,): 0, (0, True): 1}, False)

    def test_other_kinds_of_potentials(self):
        for value in (None, "2", "", (), [2], (2,), {}, {"h": 2}):
            for node in GOOD:
                self.assertTold({**GOOD, node: value}, False)

    def test_any_value(self):
        for value in ANY_VALUES:
            self.assertTold(value, False)
        self.assertTold(list(GOOD.items()), False)
        self.assertTold(tuple(GOOD), False)

    def test_least_potentials_and_those_around_them(self):
        chance = random.Random(41)
        many = 0
        for _ in range(200):
            start, moves, ends = random_net(chance, 5, 3, (-3, 2))
            net = Net(start, moves, ends)
            try:
                least = potentials(net)
            except Unbounded:
                continue
            many += 1
            self.assertIs(is_potentials(net, least), True)
            self.assertIs(is_potentials(net, {node: least[node] + 5 for node in least}), True)
            for node in least:
                self.assertIs(is_potentials(net, {**least, node: least[node] - 1}), False)
        self.assertGreater(many, 50)

    def test_unbounded_nets_have_none(self):
        net = Net((0,), {(0,): [("x", 2, (1,))], (1,): [("y", -1, (0,))]}, [(0,)])
        for first, second in itertools.product(range(-2, 6), repeat=2):
            self.assertIs(is_potentials(net, {(0,): first, (1,): second}), False)


class IsWayTest(unittest.TestCase):
    def assertTold(self, node, value, expected):
        before = copy.deepcopy(value)
        self.assertIs(is_way(NET, node, value), expected, repr(value))
        self.assertEqual(value, before)

    def test_the_empty_way(self):
        for node in GOOD:
            self.assertTold(node, [], True)
            self.assertTold(node, (), False)
            self.assertTold(node, "", False)
            self.assertTold(node, {}, False)

    def test_ways(self):
        self.assertTold((0,), [("x", 2, (1,))], True)
        self.assertTold((0,), [("x", 2, (1,)), ("y", -3, (0,)), ("y", 1, (0, 1))], True)
        self.assertTold((1,), [(("x", 1), 0, (1,))] * 5, True)

    def test_a_way_from_another_node(self):
        self.assertTold((1,), [("x", 2, (1,))], False)
        self.assertTold((0, 1), [("x", 2, (1,))], False)

    def test_moves_that_do_not_follow(self):
        self.assertTold((0,), [("x", 2, (1,)), ("x", 2, (1,))], False)
        self.assertTold((0,), [("y", -3, (0,)), ("x", 2, (1,))], False)
        self.assertTold((0,), [("y", 1, (0, 1)), ("y", 1, (0, 1))], False)

    def test_other_labels_gains_and_nodes(self):
        for move in (("z", 2, (1,)), ("x", 3, (1,)), ("x", 2, (0,)), ("x", 2, (0, 1)), ("x", 2, (5,)), ("y", 2, (1,)),
                     (("x",), 2, (1,)), (["x"], 2, (1,)), (None, 2, (1,)), ("x", None, (1,)), ("x", "2", (1,))):
            self.assertTold((0,), [move], False)

    def test_moves_of_another_length(self):
        for move in ((), ("x",), ("x", 2), ("x", 2, (1,), None), ("x", 2, (1,), (1,)), ("x", 2, 1)):
            self.assertTold((0,), [move], False)
            self.assertTold((0,), [("x", 2, (1,)), move], False)

    def test_lists_in_place_of_tuples(self):
        self.assertTold((0,), [["x", 2, (1,)]], False)
        self.assertTold((0,), [("x", 2, [1])], False)
        self.assertTold((1,), [(["x", 1], 0, (1,))], False)

    def test_tuples_in_place_of_lists(self):
        self.assertTold((0,), (("x", 2, (1,)),), False)
        self.assertTold((0,), ("x", 2, (1,)), False)
        self.assertTold((0,), {("x", 2, (1,)): 1}, False)

    def test_true_and_false_are_not_integers(self):
        self.assertTold((0,), [("y", True, (0, 1))], False)
        self.assertTold((1,), [(("x", 1), False, (1,))], False)
        self.assertTold((1,), [(("x", True), 0, (1,))], False)
        self.assertTold((0,), [("x", 2, (True,))], False)
        self.assertTold((0,), [("y", 1, (False, 1))], False)
        self.assertTold((1,), [("y", -3, (False,)), ("x", 2, (1,))], False)

    def test_any_value(self):
        for value in ANY_VALUES:
            for node in GOOD:
                self.assertTold(node, value, False)
                self.assertTold(node, [value], False)
            self.assertTold((0,), [("x", 2, (1,)), value], False)
            self.assertTold((0,), [("x", 2, value)], False)
            self.assertTold((0,), [("x", value, (1,))], False)
            self.assertTold((0,), [(value, 2, (1,))], value == "x")

    def test_best_ways_are_ways(self):
        chance = random.Random(42)
        for _ in range(200):
            net = Net(*random_net(chance, 6, 3, (-5, 1)))
            try:
                way = best_way(net)
            except Unbounded as error:
                node = end_of(net.start, error.way)
                self.assertIs(is_way(net, net.start, error.way), True)
                self.assertIs(is_way(net, node, error.round_trip), True)
                self.assertIs(is_way(net, node, error.rest), True)
                self.assertEqual(end_of(node, error.round_trip), node)
                self.assertGreater(gain_of(error.round_trip), 0)
                self.assertIn(end_of(node, error.rest), net.ends)
                continue
            self.assertIs(is_way(net, net.start, way), True)
            self.assertIn(end_of(net.start, way), net.ends)
            if way:
                self.assertIs(is_way(net, net.start, tuple(way)), False)
                self.assertIs(is_way(net, net.start, way + [("q", 0, way[-1][2])]), False)


class WayTest(unittest.TestCase):
    way = [("x", 2, (1,)), ("y", -3, (0,)), ("y", 1, (0, 1))]

    def test_end_of(self):
        self.assertEqual(end_of((0,), self.way), (0, 1))
        self.assertEqual(end_of((0,), self.way[:1]), (1,))

    def test_gain_of(self):
        self.assertEqual(gain_of(self.way), 0)
        self.assertEqual(gain_of(self.way[:2]), -1)
        self.assertEqual(gain_of(self.way[:1]), 2)

    def test_the_empty_way(self):
        self.assertEqual((end_of((3, 4), []), end_of((), []), gain_of([])), ((3, 4), (), 0))

    def test_ways_are_not_changed(self):
        way = list(self.way)
        end_of((0,), way)
        gain_of(way)
        self.assertEqual(way, self.way)


if __name__ == "__main__":
    unittest.main()
