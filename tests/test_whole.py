"""What the document promises over the whole program: systems that are alike, and what a call leaves as it was."""

import copy
import itertools
import random
import unittest

from tests.account import TRICKS, all_histories
from tests.model import Model, random_history, random_models
from trickfares.cards import Card
from trickfares.compare import dearer, most_dearer, net_of, never_dearer
from trickfares.console import Console
from trickfares.errors import BadPlace, FareError, InvalidText, NotComparable, TooLarge, UnknownLetter
from trickfares.factors import factor, factor_constant, factor_trip
from trickfares.fares import System
from trickfares.machines import are_alike, smallest, states
from trickfares.nets import Net, best_way, is_potentials, is_way, potentials
from trickfares.past import same_time, worth
from trickfares.safe import safe_values
from trickfares.sharing import cheapest
from trickfares.tricks import example, gain, histories, trick_net

FULL = "slots 2\npeak 1\nride a 4 6\nride c 2 2\ntransfer 0 1\ncap 9\nbonus 3"


def alike_models(model):
    """Models whose texts are others, but for which each history costs the same."""
    told = []
    if not model.peak:
        for price in (0, 7):
            other = copy.deepcopy(model)
            other.rides = {kind: (prices[0], price) for kind, prices in model.rides.items()}
            told.append(other)
        other = copy.deepcopy(model)
        other.peak = tuple(range(model.slots))
        other.rides = {kind: (price, model.rides[kind][0]) for price, kind in enumerate(sorted(model.rides))}
        told.append(other)
    if not model.peak and model.cap is None and model.slots < 8:
        other = copy.deepcopy(model)
        other.slots += 1
        told.append(other)
    if model.bonus is None and model.transfer is None:
        other = copy.deepcopy(model)
        other.transfer = (1, 20)
        told.append(other)
    return told


def gains(system):
    """What each trick gains, or that its net is too large."""
    found = {}
    for trick in TRICKS:
        try:
            found[trick] = gain(system, trick)
        except TooLarge:
            found[trick] = "too large"
    return found


class AlikeTest(unittest.TestCase):
    def assertAlike(self, first, second):
        self.assertIs(are_alike(first, second), True)
        self.assertEqual(smallest(first), smallest(second), (str(first), str(second)))
        try:
            net_of(first, second)
        except TooLarge:
            pass
        else:
            for one, other in ((first, second), (second, first)):
                self.assertIs(never_dearer(one, other), True)
                self.assertEqual((dearer(one, other), most_dearer(one, other)), (None, 0))
            self.assertIn(factor(first, second), ((0, 1), (1, 1)))
            self.assertEqual(factor_constant(first, second), 0)
        both = [gains(first), gains(second)]
        for trick in TRICKS:
            told = [each[trick] for each in both]
            if "too large" not in told:
                self.assertEqual(told[0], told[1], (str(first), str(second), trick))
        return [told for told in both[0].values() if told != "too large"]

    def test_texts_that_mean_the_same(self):
        many = 0
        found = set()
        for model in random_models(151, 40, small=True):
            for other in alike_models(model):
                try:
                    first, second = System.parse(model.text()), System.parse(other.text())
                except TooLarge:
                    continue
                found.update(min(told, 1) if isinstance(told, int) else told for told in self.assertAlike(first, second))
                many += 1
        self.assertGreater(many, 50)
        self.assertGreaterEqual(found, {None, 0, 1})

    def test_systems_that_cost_the_same(self):
        first = System.parse("slots 1\nride a 4 4\nride b 2 2\ntransfer 0 1")
        for text in ("slots 2\nride a 4 4\nride b 2 2\ntransfer 0 1", "slots 8\nride a 4 0\nride b 2 9\ntransfer 0 1",
                     "slots 1\npeak 0\nride a 20 4\nride b 0 2\ntransfer 0 1"):
            self.assertEqual(self.assertAlike(first, System.parse(text)), [1, 3, 3, 0, None])

    def test_they_share_and_tap_alike(self):
        chance = random.Random(152)
        for model in random_models(153, 30, small=True):
            for other in alike_models(model)[:2]:
                history = random_history(chance, model.letters, 12)
                first, second = System.parse(model.text()), System.parse(other.text())
                for cards in (1, 2, 3):
                    self.assertEqual(cheapest(first, history, cards)[0], cheapest(second, history, cards)[0])
                one, two = Card(first), Card(second)
                for letter in history:
                    self.assertEqual(one.tap(letter), two.tap(letter))
                self.assertEqual(one.next_costs(), two.next_costs())

    def test_alike_just_if_all_histories_cost_the_same(self):
        systems = []
        for slots, price, transfer, cap, bonus in itertools.product(
                (1, 2), (0, 1, 2), ("", "\ntransfer 0 1"), ("", "\ncap 1"), ("", "\nbonus 2")):
            systems.append(System.parse("slots %d\nride a %d %d%s%s%s" % (slots, price, price, transfer, cap, bonus)))
        rows = [[system.costs(history) for history in all_histories("a.", 6)] for system in systems]
        found = {}
        for (first, costs), (second, others) in itertools.combinations(zip(systems, rows), 2):
            alike = costs == others
            self.assertIs(are_alike(first, second), alike)
            self.assertIs(smallest(first) == smallest(second), alike)
            self.assertIs(never_dearer(first, second) and never_dearer(second, first), alike)
            if alike:
                self.assertAlike(first, second)
            found[alike] = found.get(alike, 0) + 1
        self.assertGreater(min(found[True], found[False]), 50)


class NothingChangesTest(unittest.TestCase):
    """A call leaves its arguments, and what others return, as they were."""

    def calls(self, system, other):
        told = [lambda: states(system), lambda: smallest(system), lambda: are_alike(system, other),
                lambda: never_dearer(system, other), lambda: dearer(system, other), lambda: most_dearer(system, other),
                lambda: factor(system, other), lambda: factor_constant(system, other), lambda: factor_trip(system, other),
                lambda: worth(system, 0, 1), lambda: same_time(system), lambda: cheapest(system, "ac.aa", 3),
                lambda: safe_values(system, "more", "cap"), lambda: safe_values(system, "later", "peak", kind="a"),
                lambda: str(system), lambda: system.costs("ac.aa"), lambda: str(system.with_number("cap", 3))]
        for trick in TRICKS[:3]:
            told += [lambda trick=trick: gain(system, trick), lambda trick=trick: example(system, trick),
                     lambda trick=trick: potentials(trick_net(system, trick)) if gain(system, trick) else 0]
        return told

    def test_all_calls_in_two_orders(self):
        system, other = System.parse(FULL), System.parse(FULL.replace("cap 9", "cap 8"))
        before = [dict(vars(system)), dict(vars(other))]
        calls = self.calls(system, other)
        answers = [self.outcome(call) for call in calls]
        again = [self.outcome(call) for call in calls[::-1]][::-1]
        self.assertEqual(answers, again)
        self.assertEqual([vars(system), vars(other)], before)

    def outcome(self, call):
        try:
            told = call()
        except FareError as error:
            return (type(error), vars(error))
        kept = copy.deepcopy(told)
        if isinstance(told, (list, dict)):
            # What was told is changed, which the next answer does not show.
            told.clear()
        return kept

    def test_ways_and_nets_that_are_passed(self):
        moves = {(0,): [("x", 2, (1,))], (1,): [("y", -3, (0,))]}
        ends = [(0,), (1,)]
        net = Net((0,), moves, ends)
        way = best_way(net)
        values = potentials(net)
        before = copy.deepcopy([moves, ends, way, values])
        is_way(net, (0,), way)
        is_potentials(net, values)
        self.assertEqual([moves, ends, way, values], before)
        moves[(0,)].append(("z", 1, (0,)))
        ends.clear()
        self.assertEqual((net.moves[(0,)], net.ends), (before[0][(0,)], before[1]))

    def test_ways_for_histories(self):
        system = System.parse("slots 1\nride a 4 4\nride b 2 2\ntransfer 0 1")
        way = [(("more", "b"), -2, (0, 1)), ("a", 3, (1, 1))]
        before = list(way)
        told = histories(system, "more", way)
        told[1].clear()
        self.assertEqual(way, before)
        self.assertEqual(histories(system, "more", way), ("a", ["ba"]))


class FirstErrorTest(unittest.TestCase):
    """If several errors apply, the one listed first is raised."""

    def assertFirst(self, error, call, *passed, **named):
        with self.assertRaises(FareError) as caught:
            call(*passed, **named)
        self.assertIs(type(caught.exception), error)

    def test_by_pairs(self):
        large = System.parse("slots 5\nride c 6 6\ncap 20\nbonus 4")
        other = System.parse("slots 7\nride b 6 6\ncap 20")
        for call in (net_of, never_dearer, dearer, most_dearer, factor, factor_constant, factor_trip):
            self.assertFirst(NotComparable, call, large, other)
        self.assertFirst(UnknownLetter, cheapest, large, "c" * 61 + "b", 1)
        self.assertFirst(TooLarge, cheapest, large, "c" * 61, 1)
        self.assertFirst(InvalidText, System.parse, "slots 7\nride x 8 6\ntransfer 4 5\ncap 10\nbonus 5")
        self.assertFirst(TooLarge, System.parse, "slots 7\nride x 8 6\ntransfer 4 5\ncap 10")
        self.assertFirst(UnknownLetter, Card(large).missed, 5, "b")
        self.assertFirst(BadPlace, Card(large).missed, 5, "c")


class TricksOfCardsTest(unittest.TestCase):
    """The parts of the program tell of the same tricks, each in its own way."""

    def test_cards_that_gain_nothing_are_not_needed(self):
        chance = random.Random(155)
        found = {}
        for model in random_models(156, 60, small=True):
            system = System.parse(model.text())
            history = random_history(chance, model.letters, 14)
            try:
                told = gain(system, "cards")
            except TooLarge:
                continue
            saved = system.cost(history) - cheapest(system, history, 2)[0]
            self.assertTrue(told is None or saved <= told, (str(system), history))
            found[saved > 0] = found.get(saved > 0, 0) + 1
        self.assertEqual(set(found), {True, False})

    def test_a_gaining_way_for_two_cards_is_cheaper_with_two(self):
        many = 0
        for prices, bonus in itertools.product(((4, 2), (9, 1), (5, 0)), (2, 3)):
            model = Model(1, {"a": (prices[0],) * 2, "b": (prices[1],) * 2}, bonus=bonus)
            system = System.parse(model.text())
            history, _ = histories(system, "cards", example(system, "cards"))
            if len(history) <= 60:
                self.assertLess(cheapest(system, history, 2)[0], system.cost(history))
                many += 1
        self.assertGreater(many, 0)

    def test_a_ride_more_on_a_card(self):
        for text in ("slots 1\nride a 4 4\nride b 2 2\ntransfer 0 1", "slots 2\npeak 1\nride a 4 6\nride c 2 2\ncap 9"):
            system = System.parse(text)
            told = gain(system, "more")
            for history in all_histories(system.letters, 3):
                for place in range(len(history) + 1):
                    for kind in system.letters[:-1]:
                        card = Card(system)
                        for letter in history:
                            card.tap(letter)
                        self.assertGreaterEqual(card.missed(place, kind), -told)

    def test_safe_numbers_are_those_without_a_gain(self):
        system = System.parse("slots 1\nride a 4 4\nride b 2 2\ntransfer 0 1")
        for trick in TRICKS:
            told = safe_values(system, trick, "transfer")
            for number in range(21):
                way = example(system.with_number("transfer", number), trick)
                self.assertIs(number in told, way is None)

    def test_a_console_keeps_what_with_number_tells(self):
        console = Console()
        system = System.parse(FULL).with_number("cap", 3)
        self.assertEqual(console.answer("system x\n" + str(system)), "ok")
        self.assertEqual(console.answer("cost x aac.a"), str(system.cost("aac.a")))


if __name__ == "__main__":
    unittest.main()
