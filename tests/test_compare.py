import random
import unittest

from tests.account import all_histories, ends_of, pair_moves, random_pairs
from tests.model import random_history
from tests.test_nets import longest
from trickfares.compare import dearer, most_dearer, net_of, never_dearer
from trickfares.errors import FareError, NotComparable, TooLarge
from trickfares.fares import System
from trickfares.machines import states

CHANGES = System.parse("slots 1\nride a 4 4\nride b 2 2\ntransfer 0 1")
PLAIN = System.parse("slots 1\nride a 4 4\nride b 2 2")
ASKED = (net_of, never_dearer, dearer, most_dearer)

# Systems whose net has exactly 600 nodes, and more.
TAKEN = (
    ("slots 5\nride b 1 19\ncap 14", "slots 8\nride b 11 0"),
    ("slots 5\nride m 1 5\ncap 19", "slots 3\nride m 0 4\nbonus 2"),
)
REFUSED = (
    ("slots 3\nride y 5 18\ncap 17\nbonus 4", "slots 2\nride y 4 0\ntransfer 2 2\ncap 3"),
    ("slots 2\nride z 7 20\ntransfer 3 4\ncap 16", "slots 3\nride z 11 9\ncap 3\nbonus 4"),
    ("slots 8\nride a 2 0\ncap 18", "slots 3\npeak 0 1\nride a 2 3\ncap 4"),
    ("slots 5\nride a 6 6\ncap 20\nbonus 4", "slots 7\nride a 6 6\ncap 20"),
)


def systems_of(pair):
    return [System.parse(account.model.text()) for account in pair]


class NetOfTest(unittest.TestCase):
    def test_by_hand(self):
        net = net_of(CHANGES, PLAIN)
        self.assertEqual((net.start, net.ends), ((0, 0), [(0, 0), (1, 0)]))
        self.assertEqual(net.moves, {
            (0, 0): [("a", 0, (1, 0)), ("b", 0, (1, 0)), (".", 0, (0, 0))],
            (1, 0): [("a", -3, (1, 0)), ("b", -1, (1, 0)), (".", 0, (0, 0))],
        })
        self.assertEqual(net_of(PLAIN, CHANGES).moves, {
            (0, 0): [("a", 0, (0, 1)), ("b", 0, (0, 1)), (".", 0, (0, 0))],
            (0, 1): [("a", 3, (0, 1)), ("b", 1, (0, 1)), (".", 0, (0, 0))],
        })

    def test_numbers_of_states_that_are_alike(self):
        first, second = System.parse("slots 2\nride a 4 4"), System.parse("slots 3\nride a 1 1")
        pairs = [(0, 0), (0, 1), (0, 2), (1, 0), (1, 1), (1, 2)]
        self.assertEqual(net_of(first, second).ends, pairs)
        self.assertEqual(sorted(net_of(first, second).moves), pairs)
        self.assertEqual(net_of(first, first).ends, [(0, 0), (1, 1)])

    def test_random_systems_against_the_account(self):
        for pair in random_pairs(51, 120, 150):
            first, second = systems_of(pair)
            net = net_of(first, second)
            moves = pair_moves(*pair)
            self.assertEqual(net.start, (0, 0))
            self.assertEqual(net.moves, moves, (str(first), str(second)))
            self.assertEqual(net.ends, sorted(moves))
            self.assertEqual({type(net.moves), type(net.ends), type(net.moves[(0, 0)])}, {dict, list})
            self.assertEqual({type(value) for node in net.moves for value in (node, net.moves[node][0])}, {tuple})

    def test_just_the_pairs_that_histories_lead_to(self):
        for pair in random_pairs(52, 25, 30):
            first, second = systems_of(pair)
            known = [account.model.states() for account in pair]
            led_to = set()
            for history in all_histories(first.letters, 4):
                led_to.add(tuple(found.index(each.model.state(history)) for found, each in zip(known, pair)))
            net = net_of(first, second)
            found = {net.start}
            for _ in range(4):
                found |= {move[2] for node in found for move in net.moves[node]}
            self.assertEqual(found, led_to)

    def test_a_way_costs_what_the_systems_say(self):
        chance = random.Random(53)
        for first, second in map(systems_of, random_pairs(53, 40, 150)):
            net = net_of(first, second)
            for _ in range(5):
                history = random_history(chance, first.letters, 30)
                node, total = net.start, 0
                for letter in history:
                    move = net.moves[node][first.letters.index(letter)]
                    self.assertEqual(move[0], letter)
                    node, total = move[2], total + move[1]
                self.assertEqual(total, first.cost(history) - second.cost(history))

    def test_told_lists_and_dicts_are_new(self):
        net = net_of(CHANGES, PLAIN)
        before = net_of(CHANGES, PLAIN).moves
        net.moves[(0, 0)].clear()
        net.moves.pop((1, 0))
        net.ends.append((5, 5))
        again = net_of(CHANGES, PLAIN)
        self.assertEqual((again.moves, again.ends), (before, [(0, 0), (1, 0)]))
        self.assertEqual(most_dearer(PLAIN, CHANGES), None)

    def test_arguments_are_not_changed(self):
        first, second = System.parse(str(CHANGES)), System.parse(str(PLAIN))
        before = dict(vars(first)), dict(vars(second))
        for asked in ASKED:
            asked(first, second)
            self.assertEqual((vars(first), vars(second)), before)


class ErrorTest(unittest.TestCase):
    def test_other_letters(self):
        texts = ("slots 1\nride a 4 4", "slots 1\nride b 4 4", "slots 1\nride a 4 4\nride b 4 4",
                 "slots 1\nride a 4 4\nride c 4 4", "slots 1\nride a 4 4\nride b 1 1\nride c 1 1")
        for one in texts:
            for other in texts:
                for asked in ASKED:
                    if one != other:
                        with self.assertRaises(NotComparable):
                            asked(System.parse(one), System.parse(other))

    def test_other_letters_come_before_too_many_nodes(self):
        first = System.parse("slots 5\nride a 6 6\ncap 20\nbonus 4")
        second = System.parse("slots 7\nride b 6 6\ncap 20")
        for asked in ASKED:
            self.assertRaises(NotComparable, asked, first, second)

    def test_600_nodes_are_taken(self):
        for one, other in TAKEN:
            first, second = System.parse(one), System.parse(other)
            for left, right in ((first, second), (second, first)):
                net = net_of(left, right)
                self.assertEqual((len(net.moves), len(net.ends)), (600, 600))
                self.assertEqual(never_dearer(left, right), most_dearer(left, right) == 0)
                self.assertEqual(dearer(left, right) is None, never_dearer(left, right))

    def test_601_nodes_are_not(self):
        for one, other in REFUSED:
            first, second = System.parse(one), System.parse(other)
            for asked in ASKED:
                for left, right in ((first, second), (second, first)):
                    with self.assertRaises(TooLarge) as caught:
                        asked(left, right)
                    self.assertEqual(caught.exception.bound, 600)

    def test_many_states_and_few_pairs(self):
        system = System.parse("slots 5\nride c 6 6\ncap 20\nbonus 4")
        self.assertEqual(len(states(system)), 100)
        self.assertEqual(len(net_of(system, system).moves), 100)


class MostDearerTest(unittest.TestCase):
    def assertTold(self, one, other, expected):
        first, second = System.parse(one), System.parse(other)
        self.assertEqual(most_dearer(first, second), expected)
        self.assertIs(never_dearer(first, second), expected == 0)
        history = dearer(first, second)
        if expected == 0:
            self.assertIsNone(history)
        else:
            self.assertIsInstance(history, str)
            self.assertGreater(first.cost(history), second.cost(history))

    def test_by_hand(self):
        self.assertTold("slots 1\nride a 4 4", "slots 1\nride a 4 4", 0)
        self.assertTold("slots 1\nride a 5 5", "slots 1\nride a 4 4", None)
        self.assertTold("slots 1\nride a 4 4", "slots 1\nride a 5 5", 0)
        self.assertTold("slots 2\nride a 4 9", "slots 3\nride a 4 4", 0)
        self.assertTold("slots 2\npeak 1\nride a 4 5", "slots 2\nride a 4 4", None)
        self.assertTold("slots 2\npeak 1\nride a 4 4", "slots 2\nride a 4 4", 0)

    def test_a_bound_above_0(self):
        self.assertTold("slots 1\nride a 4 4\nbonus 2", "slots 1\nride a 2 2", 2)
        self.assertTold("slots 1\nride a 2 2", "slots 1\nride a 4 4\nbonus 2", 0)
        self.assertTold("slots 1\nride a 20 20\nbonus 4", "slots 1\nride a 15 15", 15)
        self.assertTold("slots 1\nride a 15 15", "slots 1\nride a 20 20\nbonus 4", 0)
        self.assertTold("slots 1\nride a 6 6\nbonus 2", "slots 1\nride a 6 6\nbonus 3", 0)
        self.assertTold("slots 1\nride a 6 6\nbonus 3", "slots 1\nride a 6 6\nbonus 2", None)

    def test_the_last_letter_of_a_dearer_history_may_come_late(self):
        self.assertTold("slots 1\nride a 10 10\nbonus 4", "slots 1\nride a 10 10\nbonus 3", None)
        self.assertTold("slots 8\npeak 7\nride a 0 1", "slots 1\nride a 0 0", None)
        self.assertTold("slots 1\nride a 1 1\ncap 20", "slots 1\nride a 1 1\ncap 19", None)

    def test_random_systems_against_all_short_histories(self):
        found = {}
        for pair in random_pairs(54, 150, 60):
            moves = pair_moves(*pair)
            best = longest((0, 0), moves, ends_of(moves))
            expected = None if best is None else best[(0, 0)]
            self.assertTold(*[account.model.text() for account in pair], expected)
            kind = None if expected is None else min(expected, 1)
            found[kind] = found.get(kind, 0) + 1
            if expected is not None:
                for history in all_histories(pair[0].letters, 5):
                    self.assertLessEqual(pair[0].cost(0, history) - pair[1].cost(0, history), expected)
        self.assertGreater(min(found[None], found[0], found[1]), 20)

    def test_the_bound_is_reached_by_a_history(self):
        for pair in random_pairs(55, 40, 12):
            told = most_dearer(*systems_of(pair))
            if told is not None:
                known = {(0, 0): 0}
                for _ in range(12):
                    for (p, q), gained in list(known.items()):
                        for letter in pair[0].letters:
                            (after, cost), (then, other) = pair[0].run(p, letter), pair[1].run(q, letter)
                            known[(after, then)] = max(known.get((after, then), -999), gained + cost - other)
                self.assertEqual(max(known.values()), told)

    def test_a_system_against_itself(self):
        for pair in random_pairs(56, 30, 60):
            for system in systems_of(pair):
                self.assertEqual((most_dearer(system, system), never_dearer(system, system)), (0, True))
                self.assertIsNone(dearer(system, system))

    def test_lower_numbers_are_never_dearer(self):
        many = 0
        for pair in random_pairs(57, 60, 60):
            for system in systems_of(pair):
                for word, row in (("cap", "cap"), ("transfer", "transfer"), ("price", "ride"), ("peak", "ride")):
                    rows = [each.split(" ") for each in str(system).split("\n") if each.startswith(row)]
                    if rows:
                        kind = rows[0][1] if row == "ride" else None
                        number = int(rows[0][{"cap": 1, "transfer": 2, "price": 2, "peak": 3}[word]])
                        try:
                            lower = system.with_number(word, max(0, number - 1), kind=kind)
                            self.assertIs(never_dearer(lower, system), True, (str(system), word))
                            self.assertTrue(most_dearer(system, lower) is None or most_dearer(system, lower) >= 0)
                            many += 1
                        except TooLarge:
                            pass
        self.assertGreater(many, 100)

    def test_all_prices_and_the_cap_doubled(self):
        found = {}
        for pair in random_pairs(58, 80, 60):
            doubled = []
            for account in pair:
                rows = [row.split(" ") for row in account.model.text().split("\n")]
                for row in rows:
                    places = {"ride": (2, 3), "transfer": (2,), "cap": (1,)}.get(row[0], ())
                    row[:] = [str(2 * int(part)) if at in places else part for at, part in enumerate(row)]
                doubled.append("\n".join(" ".join(row) for row in rows))
            first, second = systems_of(pair)
            expected = most_dearer(first, second)
            try:
                systems = [System.parse(text) for text in doubled]
            except FareError:
                continue
            self.assertEqual(most_dearer(*systems), None if expected is None else 2 * expected)
            self.assertIs(never_dearer(*systems), never_dearer(first, second))
            found[expected] = True
        self.assertGreater(len(found), 3)


if __name__ == "__main__":
    unittest.main()
