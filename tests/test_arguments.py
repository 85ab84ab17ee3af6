"""Arguments by position and by the names that the document shows, and where each name is defined."""

import inspect
import unittest

from trickfares import cards, compare, console, errors, factors, fares, machines, nets, past, safe, sharing, tricks
from trickfares.cards import Card
from trickfares.console import Console
from trickfares.fares import System
from trickfares.nets import Net

TEXT = "slots 2\nride a 4 4\ncap 5"
OTHER = "slots 2\nride a 4 4\ncap 4"
MOVES = {(0,): [("x", 2, (1,))], (1,): []}
WAY = [("x", 2, (1,))]


class NameTest(unittest.TestCase):
    def test_fares(self):
        system = System.parse(text=TEXT)
        self.assertEqual(system, System.parse(TEXT))
        self.assertEqual(system.step(state=(0, 0, 0, 0), letter="a"), system.step((0, 0, 0, 0), "a"))
        self.assertEqual((system.cost(history="aa"), system.costs(history="aa")), (5, [4, 1]))
        self.assertEqual(str(system.with_number(word="cap", number=6)), "slots 2\nride a 4 4\ncap 6")
        self.assertEqual(str(system.with_number("price", number=6, kind="a")), "slots 2\nride a 6 4\ncap 5")

    def test_machines(self):
        system = System.parse(TEXT)
        self.assertEqual(machines.states(system=system), machines.states(system))
        self.assertEqual(machines.smallest(system=system), machines.smallest(system))
        self.assertIs(machines.are_alike(first=system, second=system), True)

    def test_nets(self):
        net = Net(start=(0,), moves=MOVES, ends=[(1,)])
        self.assertEqual((net.start, net.moves, net.ends), ((0,), MOVES, [(1,)]))
        self.assertEqual(nets.potentials(net=net), {(0,): 2, (1,): 0})
        self.assertEqual((nets.greatest(net=net), nets.best_way(net=net)), (2, WAY))
        self.assertIs(nets.is_potentials(net=net, value={(0,): 2, (1,): 0}), True)
        self.assertIs(nets.is_way(net=net, node=(0,), value=WAY), True)
        self.assertEqual((nets.end_of(node=(0,), way=WAY), nets.gain_of(way=WAY)), ((1,), 2))

    def test_compare(self):
        first, second = System.parse(TEXT), System.parse(OTHER)
        self.assertEqual(compare.net_of(first=first, second=second).moves, compare.net_of(first, second).moves)
        self.assertEqual(compare.net_of(second=second, first=first).moves, compare.net_of(first, second).moves)
        self.assertIs(compare.never_dearer(first=first, second=second), False)
        self.assertIs(compare.never_dearer(second=first, first=second), True)
        self.assertEqual(compare.dearer(first=second, second=first), None)
        self.assertEqual(compare.most_dearer(first=second, second=first), 0)
        self.assertEqual(compare.most_dearer(first=first, second=second), None)

    def test_tricks(self):
        system = System.parse(TEXT)
        net = tricks.trick_net(system=system, trick="cards")
        self.assertEqual(net.moves, tricks.trick_net(system, "cards").moves)
        self.assertEqual(tricks.gain(system=system, trick="cards"), 0)
        self.assertEqual(tricks.example(trick="cards", system=system), None)
        self.assertEqual(tricks.histories(system=system, trick="cards", way=[(".", 0, (2, 2, 2))]), (".", [".", "."]))
        self.assertEqual(tricks.histories(system, "cards", way=[]), ("", ["", ""]))

    def test_factors(self):
        first, second = System.parse(TEXT), System.parse(OTHER)
        self.assertEqual(factors.factor(first=first, second=second), (5, 4))
        self.assertEqual(factors.factor(second=first, first=second), (1, 1))
        self.assertEqual(factors.factor_constant(first=first, second=second), 0)
        self.assertEqual(factors.factor_trip(first=first, second=second), factors.factor_trip(first, second))

    def test_past(self):
        system = System.parse(TEXT)
        self.assertEqual(past.worth(system=system, first=0, second=1), past.worth(system, 0, 1))
        self.assertEqual((past.worth(system, second=1, first=0), past.worth(system, first=1, second=0)), (4, 0))
        self.assertEqual(past.same_time(system=system), past.same_time(system))

    def test_sharing(self):
        system = System.parse(TEXT)
        self.assertEqual(sharing.cheapest(system=system, history="aa..a", cards=1), (9, "111"))
        self.assertEqual(sharing.cheapest(cards=1, history="aa..a", system=system), (9, "111"))

    def test_safe(self):
        system = System.parse(TEXT)
        told = safe.safe_values(system, "shared", "price", kind="a")
        self.assertEqual(safe.safe_values(system=system, trick="shared", word="price", kind="a"), told)
        self.assertEqual(safe.safe_values(kind="a", word="price", trick="shared", system=system), told)
        self.assertEqual(safe.safe_values(system, "more", word="cap", kind=None), safe.safe_values(system, "more", "cap"))

    def test_cards(self):
        card = Card(system=System.parse(TEXT))
        self.assertEqual([card.tap(letter="a"), card.tap(letter=".")], [4, 0])
        self.assertEqual([card.missed(place=0, kind="a"), card.missed(kind="a", place=3)], [1, 0])
        self.assertEqual((card.wrong(place=0), card.history, card.total), (0, "a.a", 5))
        self.assertEqual((card.next_costs(), card.fork().history), ({"a": 0}, "a.a"))

    def test_console(self):
        kept = Console()
        self.assertEqual(kept.answer(row="system x\n" + TEXT), "ok")
        self.assertEqual(kept.answer(row="names"), "x")

    def test_signatures(self):
        expected = {
            fares.System.parse: "(text)", fares.System.step: "(self, state, letter)",
            fares.System.cost: "(self, history)", fares.System.costs: "(self, history)",
            fares.System.with_number: "(self, word, number, *, kind=None)",
            machines.states: "(system)", machines.smallest: "(system)", machines.are_alike: "(first, second)",
            nets.Net: "(start, moves, ends)", nets.potentials: "(net)", nets.greatest: "(net)", nets.best_way: "(net)",
            nets.is_potentials: "(net, value)", nets.is_way: "(net, node, value)", nets.end_of: "(node, way)",
            nets.gain_of: "(way)",
            compare.net_of: "(first, second)", compare.never_dearer: "(first, second)",
            compare.dearer: "(first, second)", compare.most_dearer: "(first, second)",
            tricks.trick_net: "(system, trick)", tricks.gain: "(system, trick)", tricks.example: "(system, trick)",
            tricks.histories: "(system, trick, way)",
            factors.factor: "(first, second)", factors.factor_constant: "(first, second)",
            factors.factor_trip: "(first, second)",
            past.worth: "(system, first, second)", past.same_time: "(system)",
            sharing.cheapest: "(system, history, cards)",
            safe.safe_values: "(system, trick, word, *, kind=None)",
            cards.Card: "(system)", cards.Card.tap: "(self, letter)", cards.Card.missed: "(self, place, kind)",
            cards.Card.wrong: "(self, place)", cards.Card.next_costs: "(self)", cards.Card.fork: "(self)",
            console.Console: "()", console.Console.answer: "(self, row)",
        }
        for asked, told in expected.items():
            self.assertEqual(str(inspect.signature(asked)), told, asked)


class PlaceTest(unittest.TestCase):
    def test_each_name_is_defined_in_its_file(self):
        names = {
            errors: "FareError InvalidText TooLarge UnknownLetter NotComparable Unbounded NoFactor BadPlace InvalidRow "
                    "UnknownName",
            fares: "System",
            machines: "states smallest are_alike",
            nets: "Net potentials greatest best_way is_potentials is_way end_of gain_of",
            compare: "net_of never_dearer dearer most_dearer",
            tricks: "trick_net gain example histories",
            factors: "factor factor_constant factor_trip",
            past: "worth same_time",
            sharing: "cheapest",
            safe: "safe_values",
            cards: "Card",
            console: "Console",
        }
        for module, listed in names.items():
            for name in listed.split():
                self.assertEqual(getattr(module, name).__module__, module.__name__, name)

    def test_each_method_is_defined_in_its_class(self):
        for name in ("__init__", "__str__", "__eq__", "parse", "step", "cost", "costs", "with_number"):
            self.assertIn(name, vars(System))
        self.assertIsInstance(vars(System)["parse"], classmethod)
        self.assertIn("__init__", vars(Net))
        for name in ("__init__", "tap", "history", "total", "state", "missed", "wrong", "next_costs", "fork"):
            self.assertIn(name, vars(Card))
        for name in ("__init__", "answer"):
            self.assertIn(name, vars(Console))


class KeptTest(unittest.TestCase):
    def test_a_system_does_not_change_by_its_calls(self):
        system = System.parse(TEXT)
        before = dict(vars(system))
        for asked in (str, machines.states, machines.smallest, lambda each: each.cost("a.a"),
                      lambda each: each.with_number("cap", 1), lambda each: each.step((0, 0, 4, 0), "a"),
                      lambda each: each == System.parse(TEXT)):
            asked(system)
            self.assertEqual(vars(system), before)


if __name__ == "__main__":
    unittest.main()
