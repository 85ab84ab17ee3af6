import random
import unittest

from tests.model import random_history, random_models
from trickfares.errors import UnknownLetter
from trickfares.fares import System


def costs(text, history):
    return System.parse(text).costs(history)


class BasePriceTest(unittest.TestCase):
    def test_price_by_kind(self):
        self.assertEqual(costs("slots 2\nride a 4 6\nride b 2 3\nride z 0 20", "abzba"), [4, 2, 0, 2, 4])

    def test_peak_price_by_slot(self):
        text = "slots 4\npeak 1 3\nride a 4 6\nride b 5 1"
        self.assertEqual(costs(text, "ab.ab.ab.ab.ab.ab"), [4, 5, 0, 6, 1, 0, 4, 5, 0, 6, 1, 0, 4, 5, 0, 6, 1])

    def test_peak_in_slot_0_and_in_the_last_one(self):
        self.assertEqual(costs("slots 8\npeak 0 7\nride a 1 9", "a.a.a.a.a.a.a.a.a.a")[::2],
                         [9, 1, 1, 1, 1, 1, 1, 9, 9, 1])

    def test_one_slot_that_is_peak(self):
        self.assertEqual(costs("slots 1\npeak 0\nride a 1 9", "a.a"), [9, 0, 9])

    def test_no_peak_row(self):
        self.assertEqual(costs("slots 2\nride a 1 9", "a.a.a"), [1, 0, 1, 0, 1])

    def test_points_cost_nothing(self):
        self.assertEqual(costs("slots 3\npeak 0\nride a 1 9\ntransfer 0 5\ncap 3\nbonus 2", "......."), [0] * 7)


class TransferTest(unittest.TestCase):
    def test_within_and_behind_the_transfer_time(self):
        text = "slots 8\nride a 9 9\ntransfer 2 1"
        self.assertEqual(costs(text, "aa.a.aa.a"), [9, 1, 0, 1, 0, 1, 1, 0, 9])

    def test_the_transfer_time_0_is_the_slot_itself(self):
        self.assertEqual(costs("slots 8\nride a 9 9\ntransfer 0 1", "aaa.aa"), [9, 1, 1, 0, 9, 1])

    def test_the_greatest_transfer_time(self):
        text = "slots 8\nride a 9 9\ntransfer 4 1"
        self.assertEqual(costs(text, "a....a.a"), [9, 0, 0, 0, 0, 1, 0, 9])

    def test_a_change_opens_no_transfer_time(self):
        self.assertEqual(costs("slots 8\nride a 9 9\ntransfer 1 1", "a.a.a.a"), [9, 0, 1, 0, 9, 0, 1])

    def test_a_change_dearer_than_the_base_price(self):
        text = "slots 2\npeak 1\nride a 4 6\nride b 2 8\ntransfer 1 5"
        self.assertEqual(costs(text, "aab.ab"), [4, 4, 2, 0, 5, 5])

    def test_a_free_change(self):
        self.assertEqual(costs("slots 2\nride a 4 6\ntransfer 0 0", "aa.a"), [4, 0, 0, 4])

    def test_a_transfer_time_over_midnight(self):
        self.assertEqual(costs("slots 1\nride a 4 4\ntransfer 2 1", "a.a.a.a"), [4, 0, 1, 0, 1, 0, 4])


class BonusTest(unittest.TestCase):
    def test_each_third_full_ride(self):
        self.assertEqual(costs("slots 1\nride a 4 4\nride b 2 2\nbonus 3", "abaab.b"), [4, 2, 0, 4, 2, 0, 0])

    def test_least_and_greatest_number(self):
        self.assertEqual(costs("slots 1\nride a 4 4\nbonus 2", "aaaa"), [4, 0, 4, 0])
        self.assertEqual(costs("slots 1\nride a 4 4\nbonus 4", "aaaaa"), [4, 4, 4, 0, 4])

    def test_changes_do_not_count(self):
        self.assertEqual(costs("slots 1\nride a 4 4\ntransfer 0 1\nbonus 2", "aaa.a.a"), [4, 1, 1, 0, 0, 0, 4])

    def test_a_bonus_ride_opens_a_transfer_time(self):
        text = "slots 4\nride a 4 4\ntransfer 1 1\nbonus 2"
        self.assertEqual(costs(text, "a..a.a.a"), [4, 0, 0, 0, 0, 1, 0, 4])

    def test_a_bonus_ride_under_a_cap(self):
        self.assertEqual(costs("slots 2\nride a 4 4\ncap 6\nbonus 2", "aaaa..a"), [4, 0, 2, 0, 0, 0, 4])

    def test_a_ride_for_nothing_under_a_cap_counts(self):
        self.assertEqual(costs("slots 1\nride a 4 4\ncap 4\nbonus 3", "aa.a.a"), [4, 0, 0, 0, 0, 4])

    def test_a_bonus_ride_costs_less_than_a_change(self):
        self.assertEqual(costs("slots 1\nride a 4 4\ntransfer 0 3\nbonus 2", "a.aa"), [4, 0, 0, 3])


class CapTest(unittest.TestCase):
    def test_a_ride_costs_at_most_what_is_left(self):
        self.assertEqual(costs("slots 2\nride a 4 4\nride b 3 3\ncap 9", "aaab"), [4, 4, 1, 0])

    def test_a_cap_below_the_price(self):
        self.assertEqual(costs("slots 2\nride a 4 4\ncap 3", "a.a.a"), [3, 0, 0, 0, 3])

    def test_within_a_change(self):
        self.assertEqual(costs("slots 1\nride a 4 4\ntransfer 0 3\ncap 6", "aaa"), [4, 2, 0])

    def test_at_midnight(self):
        self.assertEqual(costs("slots 3\nride a 4 4\ncap 5", "a.a.a.a.aa"), [4, 0, 1, 0, 0, 0, 4, 0, 1, 0])

    def test_a_change_behind_midnight_is_of_the_next_day(self):
        text = "slots 2\nride a 6 6\ntransfer 1 2\ncap 7"
        self.assertEqual(costs(text, ".aa.a.aa"), [0, 6, 1, 0, 2, 0, 5, 0])

    def test_of_0(self):
        self.assertEqual(costs("slots 1\nride a 4 4\nride b 0 0\ncap 0", "ab.aa"), [0] * 5)

    def test_of_20(self):
        self.assertEqual(costs("slots 1\nride a 20 20\ncap 20", "aa.a"), [20, 0, 0, 20])


class HistoryTest(unittest.TestCase):
    text = "slots 4\npeak 1 2\nride a 4 6\nride b 2 2\ntransfer 1 1\nbonus 3"

    def test_the_empty_history(self):
        system = System.parse(self.text)
        self.assertEqual(system.costs(""), [])
        self.assertEqual(system.cost(""), 0)

    def test_new_lists_each_time(self):
        system = System.parse(self.text)
        told = system.costs("ab")
        told.append(1)
        self.assertEqual(system.costs("ab"), [4, 1])
        self.assertIsNot(system.costs(""), system.costs(""))

    def test_cost_is_the_sum(self):
        system = System.parse(self.text)
        self.assertEqual(system.cost("a.b..ab"), 10)
        self.assertEqual(system.cost("..."), 0)

    def test_a_long_history(self):
        system = System.parse(self.text)
        self.assertEqual(len(system.costs("ab." * 20000)), 60000)
        self.assertEqual(system.cost("." * 4000 + "a"), 4)

    def test_cards_are_independent(self):
        system = System.parse(self.text)
        self.assertEqual([system.cost("a"), system.cost("a")], [4, 4])

    def test_random_systems(self):
        chance = random.Random(1)
        for model in random_models(2, 120):
            system = System.parse(model.text())
            for _ in range(12):
                history = random_history(chance, model.letters, 40)
                self.assertEqual(system.costs(history), model.costs(history), (model.text(), history))
                self.assertEqual(system.cost(history), sum(model.costs(history)))


class AttributeTest(unittest.TestCase):
    def test_slots(self):
        for slots in range(1, 9):
            self.assertEqual(System.parse("slots %d\nride a 1 1" % slots).slots, slots)

    def test_letters(self):
        self.assertEqual(System.parse("slots 1\nride q 1 1").letters, "q.")
        self.assertEqual(System.parse("slots 1\nride a 1 1\nride b 3 3\nride z 2 2").letters, "abz.")


class StepTest(unittest.TestCase):
    system = System.parse("slots 3\nride a 4 4\ntransfer 1 2\ncap 7\nbonus 2")

    def test_point(self):
        self.assertEqual(self.system.step((0, 2, 4, 1), "."), ((1, 1, 4, 1), 0))
        self.assertEqual(self.system.step((1, 1, 4, 1), "."), ((2, 0, 4, 1), 0))
        self.assertEqual(self.system.step((2, 0, 4, 1), "."), ((0, 0, 0, 1), 0))
        self.assertEqual(self.system.step((2, 2, 4, 1), "."), ((0, 1, 0, 1), 0))

    def test_full_ride_and_change(self):
        self.assertEqual(self.system.step((0, 0, 0, 0), "a"), ((0, 2, 4, 1), 4))
        self.assertEqual(self.system.step((0, 2, 4, 1), "a"), ((0, 2, 6, 1), 2))
        self.assertEqual(self.system.step((0, 2, 6, 1), "a"), ((0, 2, 7, 1), 1))
        self.assertEqual(self.system.step((2, 0, 6, 1), "a"), ((2, 2, 6, 0), 0))
        self.assertEqual(self.system.step((2, 0, 6, 0), "a"), ((2, 2, 7, 1), 1))

    def test_without_rows(self):
        system = System.parse("slots 2\nride a 4 4")
        self.assertEqual(system.step((1, 0, 0, 0), "a"), ((1, 0, 0, 0), 4))
        self.assertEqual(system.step((1, 0, 0, 0), "."), ((0, 0, 0, 0), 0))

    def test_is_a_plain_tuple_of_a_plain_tuple(self):
        told = System.parse("slots 2\nride a 4 4").step((0, 0, 0, 0), "a")
        self.assertEqual((type(told), type(told[0]), len(told)), (tuple, tuple, 2))

    def test_random_systems(self):
        chance = random.Random(3)
        for model in random_models(4, 60):
            system = System.parse(model.text())
            for _ in range(10):
                history = random_history(chance, model.letters, 30)
                letter = chance.choice(model.letters)
                expected = (model.state(history + letter), model.costs(history + letter)[-1])
                self.assertEqual(system.step(model.state(history), letter), expected, (model.text(), history))


class UnknownLetterTest(unittest.TestCase):
    system = System.parse("slots 2\nride a 4 4\nride c 2 2")

    def assertPlace(self, history, place):
        for asked in (self.system.cost, self.system.costs):
            with self.assertRaises(UnknownLetter) as caught:
                asked(history)
            self.assertEqual(caught.exception.place, place)

    def test_the_first_one(self):
        self.assertPlace("b", 0)
        self.assertPlace("acb", 2)
        self.assertPlace("a.b.d", 2)
        self.assertPlace("ac.." * 100 + "z" + "b" * 100, 400)

    def test_other_characters(self):
        for character in "A 1\n~,-_:bdz":
            self.assertPlace("a." + character + "a", 2)

    def test_a_call_that_fails_changes_nothing(self):
        self.assertPlace("aax", 2)
        self.assertEqual(self.system.costs("aa"), [4, 4])


if __name__ == "__main__":
    unittest.main()
