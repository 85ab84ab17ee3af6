import copy
import random
import sys
import unittest

from trickfares.errors import Unbounded
from trickfares.nets import Net, best_way, greatest, is_way, potentials


def reach(start, moves):
    found = [start]
    for node in found:
        found.extend(after for after in sorted({move[2] for move in moves[node]}) if after not in found)
    return found


def random_net(chance, nodes, degree, gains):
    """The arguments of a net of point 9, with at most so many nodes."""
    names = [(number,) for number in range(nodes)]
    chance.shuffle(names)
    moves = {name: [] for name in names}
    for name in names:
        for _ in range(chance.randint(0, degree)):
            moves[name].append((chance.choice("abc"), chance.randint(*gains), chance.choice(names)))
    ends = sorted(chance.sample(names, chance.randint(1, nodes)))
    start = names[0]
    kept = [node for node in reach(start, moves) if any(after in ends for after in reach(node, moves))]
    if start not in kept:
        return random_net(chance, nodes, degree, gains)
    order = sorted(kept) if chance.random() < 0.5 else kept
    kept_moves = {node: [move for move in moves[node] if move[2] in kept] for node in order}
    return start, kept_moves, [end for end in ends if end in kept]


def longest(start, moves, ends):
    """For each node the greatest gain of a way to an end, or None if there are round trips with a gain.

    Works with the greatest gains of ways with so many moves, for as many moves as there are nodes.
    """
    now = {node: (0 if node in ends else None) for node in moves}
    best = [now]
    for _ in range(2 * len(moves)):
        after = {}
        for node in moves:
            gains = [move[1] + now[move[2]] for move in moves[node] if now[move[2]] is not None]
            after[node] = max(gains) if gains else None
        now = after
        best.append(now)
    tables = []
    for known in (best[:len(moves)], best):
        tables.append({node: max(row[node] for row in known if row[node] is not None) for node in moves})
    return tables[0] if tables[0] == tables[1] else None


class NetCase(unittest.TestCase):
    def assertWay(self, start, moves, way):
        """A list of moves, each of them a move of the net that begins where the one before ends."""
        self.assertIsInstance(way, list)
        for move in way:
            self.assertIn(move, moves[start])
            start = move[2]
        return start

    def assertBounded(self, start, moves, ends, expected):
        net = Net(start, moves, ends)
        self.assertEqual(potentials(net), expected)
        self.assertEqual(greatest(net), expected[start])
        way = best_way(net)
        self.assertIn(self.assertWay(start, moves, way), ends)
        self.assertEqual(sum(move[1] for move in way), expected[start])

    def assertUnbounded(self, start, moves, ends):
        net = Net(start, moves, ends)
        for asked in (potentials, greatest, best_way):
            with self.assertRaises(Unbounded) as caught:
                asked(net)
            error = caught.exception
            node = self.assertWay(start, moves, error.way)
            self.assertEqual(self.assertWay(node, moves, error.round_trip), node)
            self.assertGreater(sum(move[1] for move in error.round_trip), 0)
            self.assertIn(self.assertWay(node, moves, error.rest), ends)


class BoundedTest(NetCase):
    def test_one_node(self):
        self.assertBounded((), {(): []}, [()], {(): 0})

    def test_a_line(self):
        moves = {(0,): [("x", 2, (1,))], (1,): [("y", -5, (2,))], (2,): [("z", 1, (3,))], (3,): []}
        self.assertBounded((0,), moves, [(3,)], {(0,): -2, (1,): -4, (2,): 1, (3,): 0})
        self.assertBounded((0,), moves, [(0,), (3,)], {(0,): 0, (1,): -4, (2,): 1, (3,): 0})
        self.assertBounded((0,), moves, [(1,), (3,)], {(0,): 2, (1,): 0, (2,): 1, (3,): 0})

    def test_a_node_that_is_no_end_may_be_below_0(self):
        self.assertBounded((0,), {(0,): [("x", -7, (1,))], (1,): []}, [(1,)], {(0,): -7, (1,): 0})

    def test_the_potential_of_an_end_is_at_least_0(self):
        self.assertBounded((0,), {(0,): [("x", -7, (1,))], (1,): [("y", -1, (0,))]}, [(0,), (1,)], {(0,): 0, (1,): 0})

    def test_an_end_with_a_greater_gain(self):
        self.assertBounded((0,), {(0,): [("x", 3, (1,))], (1,): []}, [(0,), (1,)], {(0,): 3, (1,): 0})

    def test_parallel_moves(self):
        moves = {(0,): [("x", 1, (1,)), ("x", 4, (1,)), ("x", 4, (1,)), ("y", 2, (1,))], (1,): []}
        self.assertBounded((0,), moves, [(1,)], {(0,): 4, (1,): 0})

    def test_loops_of_0_and_below(self):
        moves = {(0,): [("x", 0, (0,)), ("y", -1, (0,)), ("z", 5, (1,))], (1,): [("x", 0, (1,))]}
        self.assertBounded((0,), moves, [(1,)], {(0,): 5, (1,): 0})

    def test_round_trips_of_0(self):
        moves = {(0,): [("x", 3, (1,))], (1,): [("y", -3, (0,)), ("z", -2, (2,))], (2,): [("x", 2, (1,))]}
        self.assertBounded((0,), moves, [(0,), (1,), (2,)], {(0,): 3, (1,): 0, (2,): 2})
        self.assertBounded((0,), moves, [(2,)], {(0,): 1, (1,): -2, (2,): 0})

    def test_round_trips_below_0(self):
        moves = {(0,): [("x", 3, (1,))], (1,): [("y", -4, (0,))]}
        self.assertBounded((0,), moves, [(0,)], {(0,): 0, (1,): -4})
        self.assertBounded((0,), moves, [(1,)], {(0,): 3, (1,): 0})

    def test_the_way_goes_through_ends(self):
        moves = {(0,): [("x", -1, (1,))], (1,): [("y", -1, (2,))], (2,): [("z", 9, (3,))], (3,): []}
        self.assertBounded((0,), moves, [(0,), (1,), (3,)], {(0,): 7, (1,): 8, (2,): 9, (3,): 0})

    def test_the_detour_is_better(self):
        moves = {(0,): [("a", 4, (3,)), ("b", 1, (1,))], (1,): [("b", 1, (2,))], (2,): [("b", 3, (3,))], (3,): []}
        self.assertBounded((0,), moves, [(3,)], {(0,): 5, (1,): 4, (2,): 3, (3,): 0})

    def test_great_gains(self):
        great = 10 ** 40
        moves = {(0,): [("x", great, (1,)), ("y", great + 1, (1,))], (1,): [("z", -great - 1, (0,))]}
        self.assertBounded((0,), moves, [(0,), (1,)], {(0,): great + 1, (1,): 0})

    def test_other_nodes_and_labels(self):
        moves = {(0,): [(("more", "b"), -2, (0, 1))], (0, 1): [("a", 3, (1, 1))], (1, 1): [(("x", 1), 0, (0, 1, 2))],
                 (0, 1, 2): []}
        self.assertBounded((0,), moves, [(0, 1), (0, 1, 2), (1, 1)], {(0,): 1, (0, 1): 3, (1, 1): 0, (0, 1, 2): 0})


def row(nodes, order, loop=False):
    """The moves of a row of so many nodes, put in in this order; perhaps the last one has a move to itself."""
    moves = {(at,): [("m", 1, (at + 1,))] for at in order}
    moves[(nodes - 1,)] = [("m", 1, (nodes - 1,))] if loop else []
    return moves


def orders(nodes):
    mixed = list(range(nodes))
    random.Random(nodes).shuffle(mixed)
    return range(nodes), range(nodes - 1, -1, -1), mixed


def lines_run(asked, net):
    """How many lines of the package a call runs through."""
    counts = [0]

    def told(frame, event, _):
        counts[0] += event == "line"
        return told

    before = sys.gettrace()
    sys.settrace(told)
    try:
        asked(net)
    except Unbounded:
        pass
    finally:
        sys.settrace(before)
    return counts[0]


class RowTest(NetCase):
    def test_rows(self):
        for nodes in (310, 600):
            for order in orders(nodes):
                net = Net((0,), row(nodes, order), [(nodes - 1,)])
                self.assertEqual(potentials(net), {(at,): nodes - 1 - at for at in range(nodes)})
                self.assertEqual(greatest(net), nodes - 1)
                self.assertEqual(best_way(net), [("m", 1, (at,)) for at in range(1, nodes)])

    def test_rows_with_a_loop_at_the_end(self):
        for nodes in (310, 600):
            for order in orders(nodes):
                net = Net((0,), row(nodes, order, True), [(nodes - 1,)])
                for asked in (potentials, greatest, best_way):
                    with self.assertRaises(Unbounded) as caught:
                        asked(net)
                    self.assertEqual(caught.exception.way, [("m", 1, (at,)) for at in range(1, nodes)])
                    self.assertEqual(caught.exception.round_trip, [("m", 1, (nodes - 1,))])
                    self.assertEqual(caught.exception.rest, [])
                self.assertUnbounded((0,), row(nodes, order, True), [(nodes - 1,)])

    def test_rows_that_end_at_each_node(self):
        for order in orders(310):
            ends = [(at,) for at in range(310)]
            self.assertBounded((0,), row(310, order), ends, {(at,): 309 - at for at in range(310)})
            self.assertUnbounded((0,), row(310, order, True), ends)

    def test_rows_with_shorter_ways(self):
        for order in orders(600):
            moves = row(600, order)
            for at in range(598):
                moves[(at,)].append(("n", 1, (at + 2,)))
            self.assertBounded((0,), moves, [(599,)], {(at,): 599 - at for at in range(600)})
            moves[(599,)].append(("n", -598, (0,)))
            self.assertUnbounded((0,), moves, [(599,)])
            moves[(599,)] = [("n", -599, (0,))]
            self.assertBounded((0,), moves, [(599,)], {(at,): 599 - at for at in range(600)})

    def test_twice_as_many_nodes_take_about_twice_as_many_steps(self):
        for asked in (potentials, greatest, best_way):
            for loop in (False, True):
                steps = []
                for nodes in (300, 600):
                    for order in orders(nodes):
                        steps.append(lines_run(asked, Net((0,), row(nodes, order, loop), [(nodes - 1,)])))
                self.assertLess(max(steps), 3 * min(steps))


class UnboundedTest(NetCase):
    def test_a_loop(self):
        self.assertUnbounded((0,), {(0,): [("x", 1, (0,))]}, [(0,)])

    def test_a_loop_behind_the_start(self):
        moves = {(0,): [("x", -9, (1,))], (1,): [("y", 1, (1,)), ("z", -9, (2,))], (2,): []}
        self.assertUnbounded((0,), moves, [(2,)])
        self.assertUnbounded((0,), moves, [(0,), (2,)])

    def test_one_of_parallel_moves(self):
        moves = {(0,): [("x", 2, (1,)), ("x", 3, (1,))], (1,): [("y", -3, (0,)), ("y", -2, (0,))]}
        self.assertUnbounded((0,), moves, [(0,)])
        self.assertBounded((0,), {(0,): [("x", 2, (1,))], (1,): moves[(1,)]}, [(0,)], {(0,): 0, (1,): -2})

    def test_a_round_trip_with_losses(self):
        moves = {(0,): [("a", -3, (1,))], (1,): [("b", -3, (2,))], (2,): [("c", 7, (0,)), ("d", -50, (3,))], (3,): []}
        self.assertUnbounded((0,), moves, [(3,)])

    def test_a_round_trip_beside_one_of_0(self):
        moves = {(0,): [("a", 2, (1,)), ("b", 1, (2,))], (1,): [("c", -2, (0,))], (2,): [("d", 0, (0,))]}
        self.assertUnbounded((0,), moves, [(1,)])

    def test_a_node_twice_on_the_only_round_trips(self):
        moves = {(0,): [("a", -1, (1,))], (1,): [("b", 0, (0,)), ("c", 5, (2,))], (2,): [("d", -4, (1,))]}
        self.assertUnbounded((0,), moves, [(0,)])

    def test_a_small_gain_on_a_long_round_trip(self):
        moves = {(at,): [("x", 1 if at == 17 else 0, ((at + 1) % 600,))] for at in range(600)}
        self.assertUnbounded((0,), moves, [(3,)])
        moves[(17,)] = [("x", 0, (18,))]
        self.assertBounded((0,), moves, [(3,)], {(at,): 0 for at in range(600)})

    def test_many_ways_to_the_round_trip(self):
        moves = {(at,): [("x", -1, (at + 1,)), ("y", -1, (at + 1,))] for at in range(199)}
        moves[(199,)] = [("z", 1, (199,))]
        self.assertUnbounded((0,), moves, [(199,)])

    def test_new_lists_each_time(self):
        net = Net((0,), {(0,): [("x", 1, (0,))]}, [(0,)])
        for _ in range(2):
            with self.assertRaises(Unbounded) as caught:
                potentials(net)
            self.assertEqual(caught.exception.round_trip, [("x", 1, (0,))])
            caught.exception.way.append(1)
            caught.exception.round_trip.append(1)
            caught.exception.rest.append(1)


class RandomTest(NetCase):
    def test_random_nets(self):
        chance = random.Random(31)
        counts = {True: 0, False: 0}
        for _ in range(900):
            gains = chance.choice(((-3, 3), (-4, 1), (-3, 0), (-9, 2), (0, 0), (-1, 1)))
            start, moves, ends = random_net(chance, chance.randint(1, 7), chance.randint(1, 3), gains)
            expected = longest(start, moves, ends)
            counts[expected is None] += 1
            if expected is None:
                self.assertUnbounded(start, moves, ends)
            else:
                self.assertBounded(start, moves, ends, expected)
        self.assertGreater(min(counts.values()), 100)

    def test_the_order_of_the_keys_means_nothing(self):
        chance = random.Random(32)
        for _ in range(100):
            start, moves, ends = random_net(chance, 6, 2, (-5, 1))
            expected = longest(start, moves, ends)
            for _ in range(4):
                order = list(moves)
                chance.shuffle(order)
                shuffled = {node: moves[node] for node in order}
                if expected is None:
                    self.assertUnbounded(start, shuffled, ends)
                else:
                    self.assertBounded(start, shuffled, ends, expected)


class LargerRandomTest(NetCase):
    def test_nets_of_some_forty_nodes(self):
        chance = random.Random(34)
        counts = {True: 0, False: 0}
        for _ in range(150):
            gains = chance.choice(((-9, -1), (-6, 0), (-9, 5), (-3, 3)))
            start, moves, ends = random_net(chance, 40, chance.randint(3, 4), gains)
            expected = longest(start, moves, ends)
            counts[expected is None] += 1
            if expected is None:
                self.assertUnbounded(start, moves, ends)
            else:
                self.assertBounded(start, moves, ends, expected)
        self.assertGreater(min(counts.values()), 30)

    def test_nets_without_round_trips(self):
        chance = random.Random(35)
        for _ in range(60):
            names = [(at,) for at in range(40)]
            moves = {names[at]: [("a", chance.randint(-9, 9), names[at + 1])] for at in range(39)}
            for at in range(39):
                for _ in range(chance.randint(0, 3)):
                    moves[names[at]].append(("b", chance.randint(-9, 9), names[chance.randint(at + 1, 39)]))
            moves[names[39]] = []
            order = list(names)
            chance.shuffle(order)
            shuffled = {node: moves[node] for node in order}
            ends = sorted({names[39], *chance.sample(names, 3)})
            self.assertBounded(names[0], shuffled, ends, longest(names[0], shuffled, ends))


class NotChangedTest(unittest.TestCase):
    def test_calls_do_not_change_a_net(self):
        chance = random.Random(33)
        for _ in range(150):
            start, moves, ends = random_net(chance, 5, 3, (-3, 1))
            net = Net(start, moves, ends)
            before = copy.deepcopy((net.start, net.moves, net.ends))
            for asked in (potentials, greatest, best_way):
                try:
                    told = asked(net)
                except Unbounded:
                    told = None
                self.assertEqual((net.start, net.moves, net.ends), before)
                self.assertEqual(list(net.moves), list(before[1]))
                if isinstance(told, dict):
                    told.clear()
                    self.assertEqual(list(potentials(net)) != [], True)
                if isinstance(told, list):
                    self.assertTrue(is_way(net, start, best_way(net)))
                    told.append(1)
                self.assertEqual((net.start, net.moves, net.ends), before)

    def test_results_are_new(self):
        net = Net((0,), {(0,): [("x", 2, (1,))], (1,): []}, [(1,)])
        potentials(net)[(0,)] = 7
        best_way(net).append(1)
        self.assertEqual((potentials(net), best_way(net)), ({(0,): 2, (1,): 0}, [("x", 2, (1,))]))


class NetTest(unittest.TestCase):
    def test_attributes(self):
        net = Net((0,), {(0,): [("x", 2, (1,))], (1,): []}, [(0,), (1,)])
        self.assertEqual(net.start, (0,))
        self.assertEqual(net.moves, {(0,): [("x", 2, (1,))], (1,): []})
        self.assertEqual(net.ends, [(0,), (1,)])

    def test_tuples_of_moves(self):
        net = Net((0,), {(0,): (("x", 2, (1,)),), (1,): ()}, [(0,), (1,)])
        self.assertEqual(net.moves, {(0,): [("x", 2, (1,))], (1,): []})
        self.assertEqual([type(net.moves[node]) for node in net.moves], [list, list])
        self.assertEqual(greatest(net), 2)

    def test_lists_and_tuples_of_moves_together(self):
        net = Net((0,), {(1,): [], (0,): (("x", 2, (1,)),)}, [(1,)])
        self.assertEqual(net.moves, {(0,): [("x", 2, (1,))], (1,): []})
        self.assertEqual(type(net.ends), list)

    def test_copies(self):
        row, ends = [("x", 2, (1,))], [(1,)]
        moves = {(0,): row, (1,): []}
        net = Net((0,), moves, ends)
        row.append(("y", 9, (1,)))
        moves[(1,)].append(("z", 9, (0,)))
        moves[(2,)] = []
        ends.append((0,))
        self.assertEqual((net.moves, net.ends), ({(0,): [("x", 2, (1,))], (1,): []}, [(1,)]))
        self.assertEqual(potentials(net), {(0,): 2, (1,): 0})

    def test_arguments_are_not_changed(self):
        row, ends = [("x", 2, (1,))], [(1,)]
        moves = {(0,): row, (1,): ()}
        net = Net((0,), moves, ends)
        net.moves[(0,)].append(("y", 1, (1,)))
        net.ends.append((0,))
        self.assertEqual((row, ends, moves), ([("x", 2, (1,))], [(1,)], {(0,): row, (1,): ()}))

    def test_more_than_600_nodes(self):
        moves = {(at,): [("x", 0, ((at + 1) % 700,))] for at in range(700)}
        self.assertEqual(greatest(Net((0,), moves, [(0,)])), 0)


if __name__ == "__main__":
    unittest.main()
