import unittest

from tests.model import Model
from trickfares.errors import TooLarge
from trickfares.fares import System
from trickfares.machines import states

FULL = "slots 4\npeak 1 2\nride a 4 6\nride b 2 2\ntransfer 1 1\ncap 5\nbonus 3"
SMALL = "slots 1\nride a 4 4\nride b 2 3\ntransfer 1 1\ncap 3\nbonus 2"

# Models with exactly 100 and with 101 states, with each kind of row.
TAKEN = (
    Model(8, {"y": (11, 2)}, peak=(0, 1, 2, 4, 5, 6, 7), cap=18),
    Model(5, {"c": (6, 6)}, cap=20, bonus=4),
    Model(5, {"x": (7, 8)}, transfer=(3, 9), bonus=4),
    Model(7, {"c": (17, 20)}, peak=(6,), transfer=(4, 15), cap=19),
    Model(6, {"b": (2, 1)}, transfer=(3, 0), cap=8, bonus=3),
)
REFUSED = (
    Model(7, {"a": (3, 17), "b": (7, 0), "y": (7, 8)}, peak=(2, 3, 4, 5, 6), cap=18),
    Model(7, {"x": (8, 6)}, transfer=(4, 5), cap=10),
    Model(1, {"y": (4, 20)}, transfer=(4, 3), cap=11, bonus=4),
)


class BoundTest(unittest.TestCase):
    def test_100_states_are_taken(self):
        for model in TAKEN:
            self.assertEqual(len(model.states()), 100)
            system = System.parse(model.text())
            self.assertEqual(str(system), model.text())
            self.assertEqual(len(states(system)), 100)

    def test_101_states_are_not(self):
        for model in REFUSED:
            self.assertEqual(len(model.states()), 101)
            with self.assertRaises(TooLarge) as caught:
                System.parse(model.text())
            self.assertEqual(caught.exception.bound, 100)

    def test_slots_alone(self):
        self.assertEqual(len(states(System.parse("slots 8\nride a 4 4"))), 8)

    def test_slots_and_transfer_times(self):
        model = Model(8, {"a": (4, 4)}, transfer=(4, 1))
        self.assertEqual(len(states(System.parse(model.text()))), len(model.states()))

    def test_more_states_by_each_slot(self):
        sizes = []
        for slots in range(1, 9):
            model = Model(slots, {"a": (3, 3)}, transfer=(1, 1), cap=6, bonus=2)
            size = len(model.states())
            sizes.append(size)
            if size <= 100:
                self.assertEqual(len(states(System.parse(model.text()))), size)
            else:
                self.assertRaises(TooLarge, System.parse, model.text())
        self.assertTrue(min(sizes) <= 100 < max(sizes))


class WithNumberTest(unittest.TestCase):
    def assertChanged(self, old, new, word, number, **more):
        system = System.parse(SMALL)
        other = system.with_number(word, number, **more)
        self.assertIsInstance(other, System)
        self.assertEqual(str(other), SMALL.replace(old, new))
        self.assertEqual(other, System.parse(SMALL.replace(old, new)))
        self.assertEqual(str(system), SMALL)
        for history in ("", "aab.ab", "abab", "a..a.a..b"):
            self.assertEqual(system.costs(history), System.parse(SMALL).costs(history))
            self.assertEqual(other.costs(history), System.parse(SMALL.replace(old, new)).costs(history))

    def test_cap(self):
        for number in (0, 1, 2, 7):
            self.assertChanged("cap 3", "cap %d" % number, "cap", number)

    def test_bonus(self):
        for number in (3, 4):
            self.assertChanged("bonus 2", "bonus %d" % number, "bonus", number)

    def test_transfer_is_its_price(self):
        for number in (0, 2, 20):
            self.assertChanged("transfer 1 1", "transfer 1 %d" % number, "transfer", number)

    def test_price(self):
        self.assertChanged("ride a 4 4", "ride a 0 4", "price", 0, kind="a")
        self.assertChanged("ride b 2 3", "ride b 20 3", "price", 20, kind="b")

    def test_peak(self):
        self.assertChanged("ride a 4 4", "ride a 4 19", "peak", 19, kind="a")
        self.assertChanged("ride b 2 3", "ride b 2 0", "peak", 0, kind="b")

    def test_peak_leaves_the_row_of_peak_slots(self):
        system = System.parse("slots 4\npeak 1 2\nride a 4 6\nride b 2 2")
        self.assertEqual(str(system.with_number("peak", 1, kind="a")), "slots 4\npeak 1 2\nride a 4 1\nride b 2 2")
        self.assertEqual(str(system.with_number("price", 1, kind="b")), "slots 4\npeak 1 2\nride a 4 6\nride b 1 2")

    def test_the_same_number(self):
        system = System.parse(SMALL)
        self.assertEqual(system.with_number("cap", 3), system)
        self.assertIsNot(system.with_number("cap", 3), system)

    def test_kind_is_passed_by_name_only(self):
        with self.assertRaises(TypeError):
            System.parse(SMALL).with_number("price", 1, "a")

    def test_kind_none(self):
        self.assertEqual(str(System.parse(SMALL).with_number("cap", 1, kind=None)), SMALL.replace("cap 3", "cap 1"))

    def test_of_a_changed_system(self):
        system = System.parse(SMALL).with_number("cap", 1).with_number("bonus", 4).with_number("price", 7, kind="a")
        self.assertEqual(str(system), "slots 1\nride a 7 4\nride b 2 3\ntransfer 1 1\ncap 1\nbonus 4")

    def test_too_large(self):
        system = System.parse("slots 7\nride x 8 6\ntransfer 4 5\ncap 4")
        before = [str(system), system.costs("xx.x.....xx..x"), states(system)]
        with self.assertRaises(TooLarge) as caught:
            system.with_number("cap", 10)
        self.assertEqual(caught.exception.bound, 100)
        self.assertEqual([str(system), system.costs("xx.x.....xx..x"), states(system)], before)
        self.assertEqual(str(system.with_number("cap", 3)), str(system).replace("cap 4", "cap 3"))

    def test_too_large_by_each_word(self):
        system = System.parse("slots 7\nride x 20 20\ntransfer 0 20\ncap 20\nbonus 2")
        for word, kind in (("price", "x"), ("transfer", None)):
            with self.assertRaises(TooLarge, msg=word):
                system.with_number(word, 1, kind=kind)
        peak = System.parse("slots 8\npeak 0 1 2 3 4 5 6 7\nride x 20 20\ncap 20\nbonus 2")
        with self.assertRaises(TooLarge):
            peak.with_number("peak", 1, kind="x")
        bonus = System.parse("slots 6\nride x 10 10\ntransfer 4 10\nbonus 2")
        with self.assertRaises(TooLarge):
            bonus.with_number("bonus", 4)

    def test_exactly_100_and_101_states(self):
        system = System.parse("slots 5\nride c 6 6\ncap 0\nbonus 4")
        self.assertEqual(len(states(system.with_number("cap", 20))), 100)
        other = System.parse("slots 7\npeak 2 3 4 5 6\nride a 3 17\nride b 7 0\nride y 7 8\ncap 0")
        self.assertRaises(TooLarge, other.with_number, "cap", 18)

    def test_somewhat_beyond_the_bounds(self):
        system = System.parse("slots 1\nride a 4 4\ncap 3")
        self.assertEqual(system.with_number("cap", 21).cost("a" * 9), 21)
        self.assertEqual(system.with_number("price", 25, kind="a").cost("a"), 3)
        bonus = System.parse("slots 1\nride a 4 4\nbonus 4")
        self.assertEqual(bonus.with_number("bonus", 5).costs("a" * 6), [4, 4, 4, 4, 0, 4])
        self.assertEqual(bonus.with_number("bonus", 1).costs("aa"), [0, 0])
        self.assertRaises(TooLarge, bonus.with_number, "bonus", 0)

    def test_all_numbers_against_the_model(self):
        for cap in range(21):
            model = Model(2, {"a": (4, 5), "b": (7, 7)}, peak=(1,), cap=cap, bonus=2)
            system = System.parse("slots 2\npeak 1\nride a 4 5\nride b 7 7\ncap 3\nbonus 2")
            if len(model.states(100)) > 100:
                self.assertRaises(TooLarge, system.with_number, "cap", cap)
            else:
                self.assertEqual(system.with_number("cap", cap).costs("ab.ba.ab"), model.costs("ab.ba.ab"))


if __name__ == "__main__":
    unittest.main()
