import random
import unittest

from tests.model import Model, random_history, random_models
from trickfares.errors import NotComparable
from trickfares.fares import System
from trickfares.machines import are_alike, smallest, states


def different_pairs(rows, others):
    """The pairs of states of two tables from which some history costs different amounts, found by marking."""
    pairs = [(p, q) for p in range(len(rows)) for q in range(len(others))]
    marked = set()
    grown = True
    while grown:
        grown = False
        for p, q in pairs:
            steps = list(zip(rows[p], others[q]))
            if (p, q) not in marked and any(a[1] != b[1] or (a[0], b[0]) in marked for a, b in steps):
                marked.add((p, q))
                grown = True
    return marked


def run(machine, letters, history):
    """The costs of a history in a machine."""
    costs = []
    number = 0
    for letter in history:
        number, cost = machine[number][letters.index(letter)]
        costs.append(cost)
    return costs


class StatesTest(unittest.TestCase):
    def test_in_the_order_of_histories(self):
        system = System.parse("slots 2\nride a 4 4\nride b 2 2\ntransfer 0 1\ncap 5")
        self.assertEqual(states(system)[:7], [
            (0, 0, 0, 0), (0, 1, 4, 0), (0, 1, 2, 0), (1, 0, 0, 0), (0, 1, 5, 0), (1, 0, 4, 0), (0, 1, 3, 0)])

    def test_one_state(self):
        self.assertEqual(states(System.parse("slots 1\nride a 4 4")), [(0, 0, 0, 0)])

    def test_points_alone(self):
        system = System.parse("slots 4\nride a 4 4")
        self.assertEqual(states(system), [(0, 0, 0, 0), (1, 0, 0, 0), (2, 0, 0, 0), (3, 0, 0, 0)])

    def test_rides_come_before_points(self):
        system = System.parse("slots 2\nride a 4 4\nbonus 2")
        self.assertEqual(states(system), [(0, 0, 0, 0), (0, 0, 0, 1), (1, 0, 0, 0), (1, 0, 0, 1)])

    def test_a_new_list_each_time(self):
        system = System.parse("slots 2\nride a 4 4")
        told = states(system)
        told.append((5, 5, 5, 5))
        self.assertEqual(states(system), [(0, 0, 0, 0), (1, 0, 0, 0)])
        self.assertIsNot(states(system), states(system))

    def test_random_systems(self):
        for model in random_models(21, 120):
            told = states(System.parse(model.text()))
            self.assertEqual(told, model.states(), model.text())
            self.assertEqual({(type(told), type(state)) for state in told}, {(list, tuple)})


class SmallestTest(unittest.TestCase):
    def test_slots_without_peak_are_joined(self):
        self.assertEqual(smallest(System.parse("slots 8\nride a 4 9")), [((0, 4), (0, 0))])

    def test_peak_slots_are_not(self):
        self.assertEqual(smallest(System.parse("slots 3\npeak 2\nride a 4 9")),
                         [((0, 4), (1, 0)), ((1, 4), (2, 0)), ((2, 9), (0, 0))])

    def test_slots_that_repeat_within_a_day(self):
        self.assertEqual(smallest(System.parse("slots 4\npeak 1 3\nride a 4 9")), [((0, 4), (1, 0)), ((1, 9), (0, 0))])

    def test_peak_slots_of_the_same_price(self):
        self.assertEqual(smallest(System.parse("slots 4\npeak 1 3\nride a 4 4")), [((0, 4), (0, 0))])

    def test_the_numbering(self):
        self.assertEqual(smallest(System.parse("slots 1\nride a 4 4\nride b 2 2\ntransfer 0 1")),
                         [((1, 4), (1, 2), (0, 0)), ((1, 1), (1, 1), (0, 0))])

    def test_a_bonus(self):
        self.assertEqual(smallest(System.parse("slots 2\nride a 4 4\nbonus 3")),
                         [((1, 4), (0, 0)), ((2, 4), (1, 0)), ((0, 0), (2, 0))])

    def test_a_bonus_over_free_rides(self):
        self.assertEqual(smallest(System.parse("slots 2\nride a 0 4\nbonus 3")), [((0, 0), (0, 0))])

    def test_a_cap_that_is_never_reached_again(self):
        self.assertEqual(smallest(System.parse("slots 1\nride a 4 4\ncap 6")),
                         [((1, 4), (0, 0)), ((2, 2), (0, 0)), ((2, 0), (0, 0))])

    def test_a_transfer_price_that_never_counts(self):
        self.assertEqual(smallest(System.parse("slots 3\nride a 4 4\nride b 5 5\ntransfer 4 6")),
                         [((0, 4), (0, 5), (0, 0))])

    def test_new_lists_each_time(self):
        system = System.parse("slots 1\nride a 4 4")
        told = smallest(system)
        told.append(1)
        self.assertEqual(smallest(system), [((0, 4), (0, 0))])

    def test_kinds_of_values(self):
        told = smallest(System.parse("slots 2\npeak 1\nride a 4 5"))
        self.assertIsInstance(told, list)
        for row in told:
            self.assertIsInstance(row, tuple)
            for step in row:
                self.assertEqual([type(step), len(step), type(step[0]), type(step[1])], [tuple, 2, int, int])

    def test_random_systems(self):
        chance = random.Random(22)
        for model in random_models(23, 40) + random_models(24, 40, small=True):
            machine = smallest(System.parse(model.text()))
            for _ in range(15):
                history = random_history(chance, model.letters, 30)
                self.assertEqual(run(machine, model.letters, history), model.costs(history))
            self.assert_numbered(machine)
            marked = different_pairs(machine, machine)
            self.assertEqual(len(marked), len(machine) * (len(machine) - 1), model.text())

    def assert_numbered(self, machine):
        """States are numbered in the order in which they are reached, and all are reached."""
        order = [0]
        for number in order:
            for after, _ in machine[number]:
                if after not in order:
                    order.append(after)
        self.assertEqual(order, list(range(len(machine))))


class AreAlikeTest(unittest.TestCase):
    def test_alike_systems(self):
        pairs = [
            ("slots 1\nride a 4 4", "slots 8\nride a 4 9"),
            ("slots 2\npeak 1\nride a 4 5", "slots 4\npeak 1 3\nride a 4 5"),
            ("slots 2\npeak 1\nride a 4 4", "slots 3\nride a 4 7"),
            ("slots 1\nride a 4 4", "slots 1\nride a 4 4\ntransfer 3 4"),
            ("slots 1\nride a 0 0", "slots 1\nride a 7 7\ncap 0"),
            ("slots 1\nride a 0 0", "slots 1\nride a 0 0\nbonus 4"),
        ]
        for one, other in pairs:
            first, second = System.parse(one), System.parse(other)
            self.assertIs(are_alike(first, second), True)
            self.assertIs(are_alike(second, first), True)
            self.assertIs(are_alike(first, first), True)

    def test_systems_that_are_not_alike(self):
        pairs = [
            ("slots 1\nride a 4 4", "slots 1\nride a 5 4"),
            ("slots 2\npeak 1\nride a 4 5", "slots 2\npeak 0\nride a 4 5"),
            ("slots 2\npeak 1\nride a 4 5", "slots 3\npeak 1\nride a 4 5"),
            ("slots 1\nride a 4 4", "slots 1\nride a 4 4\ntransfer 3 3"),
            ("slots 1\nride a 4 4", "slots 1\nride a 4 4\ncap 20"),
            ("slots 1\nride a 4 4\nbonus 3", "slots 1\nride a 4 4\nbonus 4"),
            ("slots 8\npeak 7\nride a 4 4\nride b 0 0", "slots 8\npeak 7\nride a 4 4\nride b 0 1"),
        ]
        for one, other in pairs:
            first, second = System.parse(one), System.parse(other)
            self.assertIs(are_alike(first, second), False)
            self.assertIs(are_alike(second, first), False)

    def test_exactly_if_no_history_costs_differently(self):
        models = random_models(25, 14, small=True)
        for cap in (None, 1, 2, 20):
            models.append(Model(2, {"a": (1, 1)}, peak=(1,), cap=cap))
            models.append(Model(1, {"a": (1, 3)}, cap=cap, transfer=(0, 1)))
        found = set()
        for one in models:
            for other in models:
                if one.letters == other.letters:
                    alike = (0, 0) not in different_pairs(one.table(), other.table())
                    told = are_alike(System.parse(one.text()), System.parse(other.text()))
                    self.assertIs(told, alike, (one.text(), other.text()))
                    found.add((alike, one.text() == other.text()))
        self.assertEqual(found, {(True, True), (True, False), (False, False)})

    def test_other_letters(self):
        for one, other in (
            ("slots 1\nride a 4 4", "slots 1\nride b 4 4"),
            ("slots 1\nride a 4 4", "slots 1\nride a 4 4\nride b 4 4"),
            ("slots 1\nride a 4 4\nride b 1 1", "slots 1\nride a 4 4\nride c 1 1"),
        ):
            first, second = System.parse(one), System.parse(other)
            self.assertRaises(NotComparable, are_alike, first, second)
            self.assertRaises(NotComparable, are_alike, second, first)


if __name__ == "__main__":
    unittest.main()
