import unittest

from tests.account import Account, all_histories, ends_of, pair_moves, random_accounts
from tests.model import Model
from tests.test_nets import longest
from trickfares.errors import TooLarge
from trickfares.fares import System
from trickfares.machines import smallest, states
from trickfares.past import same_time, worth

CHANGES = System.parse("slots 1\nride a 4 4\nride b 2 2\ntransfer 0 1")

# Systems with two states whose net has exactly 600 nodes, and 601 or a few more.
TAKEN = (("slots 5\nride a 1 3\ncap 14", 17, 28), ("slots 5\nride b 1 19\ncap 14", 27, 3))
REFUSED = (
    ("slots 6\nride m 13 3\nride z 1 15\ncap 12", 27, 6),
    ("slots 5\nride b 11 0\ntransfer 4 3\nbonus 3", 2, 8),
    ("slots 4\nride z 2 3\ntransfer 3 1\ncap 4", 37, 28),
)


class WorthTest(unittest.TestCase):
    def worths(self, text):
        system = System.parse(text)
        many = range(len(states(system)))
        return [[worth(system, p, q) for q in many] for p in many]

    def test_by_hand(self):
        self.assertEqual(self.worths("slots 1\nride a 4 4"), [[0]])
        self.assertEqual(self.worths("slots 1\nride a 4 4\ntransfer 0 1"), [[0, 3], [0, 0]])
        self.assertEqual(self.worths("slots 1\nride a 4 4\nbonus 2"), [[0, 4], [0, 0]])
        self.assertEqual(self.worths("slots 1\nride a 4 4\nbonus 3"), [[0, 4, 4], [0, 0, 4], [0, 0, 0]])
        self.assertEqual(self.worths("slots 1\nride a 3 3\ncap 7"),
                         [[0, 3, 6, 7], [0, 0, 3, 4], [0, 0, 0, 1], [0, 0, 0, 0]])

    def test_no_bound(self):
        self.assertEqual(self.worths("slots 2\npeak 1\nride a 4 9"), [[0, None], [None, 0]])
        self.assertEqual(self.worths("slots 1\nride a 4 4\nride b 2 2\nbonus 2"), [[0, None], [None, 0]])

    def test_the_example_in_both_directions(self):
        self.assertEqual(self.worths("slots 1\nride a 4 4\nride b 2 2\ntransfer 0 1"), [[0, 3], [0, 0]])

    def test_states_that_are_alike(self):
        self.assertEqual(self.worths("slots 3\nride a 4 4"), [[0] * 3] * 3)
        self.assertEqual(self.worths("slots 1\nride a 0 0\nbonus 4"), [[0] * 4] * 4)

    def test_random_systems_against_all_short_histories(self):
        found = {}
        for account in random_accounts(81, 40, 100):
            system = System.parse(account.model.text())
            many = range(len(account.table))
            for p in many:
                for q in many:
                    moves = pair_moves(account, account, (p, q))
                    best = longest((p, q), moves, ends_of(moves))
                    expected = None if best is None else best[(p, q)]
                    told = worth(system, p, q)
                    self.assertEqual(told, expected, (str(system), p, q))
                    kind = None if told is None else min(told, 1)
                    found[kind] = found.get(kind, 0) + 1
                    if p == q:
                        self.assertEqual(told, 0)
                    if told is not None and len(many) < 7:
                        for history in all_histories(account.letters, 4):
                            self.assertLessEqual(account.cost(p, history) - account.cost(q, history), told)
        self.assertGreater(min(found[None], found[0], found[1]), 20)

    def test_the_worth_is_reached_by_a_history_behind_the_states(self):
        for model in (Model(1, {"a": (4, 4), "b": (2, 2)}, transfer=(0, 1)), Model(1, {"a": (5, 5)}, bonus=3),
                      Model(2, {"a": (2, 2)}, cap=3), Model(1, {"a": (3, 3)}, transfer=(1, 1), bonus=2)):
            account = Account(model)
            heads = {}
            for history in all_histories(model.letters, 6):
                heads.setdefault(account.after(0, history), history)
            self.assertEqual(len(heads), len(account.table))
            for p, one in heads.items():
                for q, other in heads.items():
                    told = worth(System.parse(model.text()), p, q)
                    if told is not None:
                        excess = [sum(model.costs(one + rest)[len(one):]) - sum(model.costs(other + rest)[len(other):])
                                  for rest in all_histories(model.letters, 5)]
                        self.assertEqual(max(excess), told, (model.text(), p, q))

    def test_no_worth_in_both_directions_just_for_states_that_are_alike(self):
        for account in random_accounts(82, 30, 60):
            system = System.parse(account.model.text())
            many = range(len(account.table))
            alike = sum(worth(system, p, q) == 0 == worth(system, q, p) for p in many for q in range(p))
            self.assertEqual(alike > 0, len(smallest(system)) < len(many))

    def test_600_nodes_are_taken(self):
        for text, p, q in TAKEN:
            system = System.parse(text)
            self.assertEqual(len(pair_moves(*[Account(one_model(text))] * 2, (p, q))), 600)
            self.assertEqual((worth(system, p, p), worth(system, q, q)), (0, 0))
            told = worth(system, p, q)
            self.assertTrue(told is None or told >= 0)

    def test_601_nodes_are_not(self):
        for text, p, q in REFUSED:
            system = System.parse(text)
            with self.assertRaises(TooLarge) as caught:
                worth(system, p, q)
            self.assertEqual(caught.exception.bound, 600)
            self.assertEqual((worth(system, p, p), worth(system, q, q)), (0, 0))

    def test_arguments_are_not_changed(self):
        system = System.parse(str(CHANGES))
        before = dict(vars(system))
        worth(system, 0, 1)
        same_time(system)
        self.assertEqual(vars(system), before)


def one_model(text):
    """The model of a text with one kind, a cap and nothing else."""
    rows = [row.split(" ") for row in text.split("\n")]
    return Model(int(rows[0][1]), {rows[1][1]: (int(rows[1][2]), int(rows[1][3]))}, cap=int(rows[2][1]))


def pairs_at_the_same_time(account):
    """The pairs that same_time tells: all states behind so many points, from one number of points to the next."""
    def with_rides(found):
        waiting = sorted(found)
        for state in waiting:
            waiting.extend(after for after in {account.after(state, kind) for kind in account.letters[:-1]}
                           if after not in waiting)
        return frozenset(waiting)

    now = with_rides({0})
    seen = set()
    pairs = set()
    while now not in seen:
        seen.add(now)
        pairs |= {(p, q) for p in now for q in now if p != q}
        now = with_rides({account.after(state, ".") for state in now})
    return sorted(pairs)


class SameTimeTest(unittest.TestCase):
    def told(self, text):
        return same_time(System.parse(text))

    def test_by_hand(self):
        self.assertEqual(self.told("slots 1\nride a 4 4"), [])
        self.assertEqual(self.told("slots 8\nride a 4 4"), [])
        self.assertEqual(self.told("slots 1\nride a 4 4\nbonus 3"), [(0, 1), (0, 2), (1, 0), (1, 2), (2, 0), (2, 1)])
        self.assertEqual(self.told("slots 2\nride a 4 4\nbonus 2"), [(0, 1), (1, 0), (2, 3), (3, 2)])
        self.assertEqual(self.told("slots 1\nride a 4 4\ntransfer 0 1"), [(0, 1), (1, 0)])

    def test_states_that_are_alike_are_different_states(self):
        self.assertEqual(self.told("slots 1\nride a 0 0\nbonus 2"), [(0, 1), (1, 0)])

    def test_states_of_different_times_are_no_pair(self):
        # A change that is left from the slot before, and one from a ride in this slot.
        system = System.parse("slots 1\nride a 4 4\ntransfer 1 1")
        self.assertEqual(states(system), [(0, 0, 0, 0), (0, 2, 0, 0), (0, 1, 0, 0)])
        self.assertEqual(same_time(system), [(0, 1), (0, 2), (1, 0), (1, 2), (2, 0), (2, 1)])
        system = System.parse("slots 2\nride a 4 4\ntransfer 0 1")
        self.assertEqual(states(system), [(0, 0, 0, 0), (0, 1, 0, 0), (1, 0, 0, 0), (1, 1, 0, 0)])
        self.assertEqual(same_time(system), [(0, 1), (1, 0), (2, 3), (3, 2)])

    def test_random_systems_against_the_account(self):
        for account in random_accounts(83, 120, 150):
            told = self.told(account.model.text())
            self.assertIs(type(told), list)
            self.assertEqual(told, pairs_at_the_same_time(account), account.model.text())

    def test_all_short_histories(self):
        for account in random_accounts(84, 30, 60):
            told = self.told(account.model.text())
            by_points = {}
            for history in all_histories(account.letters, 5):
                by_points.setdefault(history.count("."), set()).add(account.after(0, history))
            for found in by_points.values():
                for p in found:
                    for q in found:
                        self.assertEqual((p, q) in told, p != q)

    def test_many_states(self):
        self.assertEqual(len(self.told("slots 5\nride c 6 6\ncap 20\nbonus 4")), 5 * 20 * 19)
        self.assertEqual(len(self.told("slots 1\nride a 1 1\ncap 20\nbonus 4")), 84 * 83)

    def test_new_lists_each_time(self):
        same_time(CHANGES).clear()
        self.assertEqual(same_time(CHANGES), [(0, 1), (1, 0)])


if __name__ == "__main__":
    unittest.main()
