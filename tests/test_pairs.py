"""The parts that the questions about systems share: nets that are grown move by move, and ways that gain."""

import random
import unittest

from tests.test_nets import longest, random_net
from trickfares.errors import TooLarge
from trickfares.nets import Net, end_of, gain_of, is_way
from trickfares.pairs import gaining_way, greatest_or_none, grown_net


class GrownNetTest(unittest.TestCase):
    def test_a_row_of_nodes(self):
        for nodes in (1, 2, 600):
            net = grown_net((0, 0), lambda node: [("x", 1, (0, min(node[1] + 1, nodes - 1)))])
            self.assertEqual((net.start, len(net.moves), len(net.ends)), ((0, 0), nodes, nodes))
            self.assertEqual(net.moves[(0, nodes - 1)], [("x", 1, (0, nodes - 1))])

    def test_601_nodes(self):
        for nodes in (601, 602, 10 ** 9):
            with self.assertRaises(TooLarge) as caught:
                grown_net((0, 0), lambda node: [("x", 1, (0, min(node[1] + 1, nodes - 1)))])
            self.assertEqual(caught.exception.bound, 600)

    def test_601_nodes_at_once(self):
        net = grown_net((0, 0), lambda node: [("x", 1, (0, at)) for at in range(600)])
        self.assertEqual(len(net.moves), 600)
        self.assertRaises(TooLarge, grown_net, (0, 0), lambda node: [("x", 1, (0, at)) for at in range(601)])

    def test_ends_are_ascending_and_hold_more_than_one_state(self):
        moves = {(0,): [("x", 0, (2, 1)), ("y", 0, (1,))], (1,): [("x", 0, (0, 3))], (2, 1): [], (0, 3): []}
        net = grown_net((0,), lambda node: moves[node])
        self.assertEqual((net.moves, net.ends), (moves, [(0, 3), (2, 1)]))


class GainingWayTest(unittest.TestCase):
    def assertGaining(self, net):
        way = gaining_way(net)
        self.assertIs(is_way(net, net.start, way), True)
        self.assertIn(end_of(net.start, way), net.ends)
        self.assertGreater(gain_of(way), 0)
        return gain_of(way)

    def test_round_trips_as_often_as_losses_ask_for(self):
        for trip in range(1, 8):
            for loss in range(20):
                moves = {(0,): [("x", -loss, (1,))], (1,): [("y", trip, (1,)), ("z", -5, (2,))], (2,): []}
                told = self.assertGaining(Net((0,), moves, [(2,)]))
                self.assertLessEqual(told, trip)

    def test_no_round_trips_where_the_way_gains_without(self):
        moves = {(0,): [("x", 3, (1,))], (1,): [("y", 5, (1,))]}
        self.assertGreater(self.assertGaining(Net((0,), moves, [(1,)])), 0)

    def test_bounds(self):
        for gain in range(-3, 4):
            net = Net((0,), {(0,): [("x", gain, (1,))], (1,): []}, [(1,)])
            self.assertEqual(gaining_way(net), [("x", gain, (1,))] if gain > 0 else None)
            self.assertEqual(greatest_or_none(net), gain)

    def test_random_nets(self):
        chance = random.Random(91)
        found = {}
        for _ in range(400):
            gains = chance.choice(((-9, 2), (-4, 1), (-9, 9), (-3, 0)))
            start, moves, ends = random_net(chance, chance.randint(1, 7), 3, gains)
            best = longest(start, moves, ends)
            net = Net(start, moves, ends)
            told = None if best is None else best[start]
            self.assertEqual(greatest_or_none(net), told)
            if told is None or told > 0:
                self.assertGaining(net)
            else:
                self.assertIsNone(gaining_way(net))
            found[told is None, told is None or told > 0] = True
        self.assertEqual(len(found), 3)


if __name__ == "__main__":
    unittest.main()
