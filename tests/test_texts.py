import random
import unittest

from tests.model import random_models
from trickfares.errors import InvalidText, TooLarge
from trickfares.fares import System

FULL = "slots 4\npeak 1 2\nride a 4 6\nride b 2 2\ntransfer 1 1\ncap 0\nbonus 3"


class SameTextTest(unittest.TestCase):
    def test_str_gives_the_text_back(self):
        for text in (
            FULL,
            "slots 1\nride a 0 0",
            "slots 8\nride z 20 20",
            "slots 1\npeak 0\nride a 1 2",
            "slots 8\npeak 0 1 2 3 4 5 6 7\nride a 1 2\nride b 3 4\nride c 5 6",
            "slots 2\nride a 10 11\ntransfer 0 0",
            "slots 2\nride a 10 11\ntransfer 4 20",
            "slots 1\nride a 20 11\ncap 20",
            "slots 1\nride a 10 11\ncap 0",
            "slots 2\nride a 10 11\nbonus 2",
            "slots 2\nride a 10 11\nbonus 4",
            "slots 2\nride a 10 11\ntransfer 1 2\nbonus 4",
            "slots 1\nride a 10 10\ntransfer 1 2\ncap 12",
            "slots 1\nride a 10 10\ncap 12\nbonus 2",
        ):
            self.assertEqual(str(System.parse(text)), text)

    def test_random_systems(self):
        for model in random_models(11, 150):
            self.assertEqual(str(System.parse(model.text())), model.text())


class EqualityTest(unittest.TestCase):
    def test_equal_exactly_if_the_texts_are(self):
        texts = [model.text() for model in random_models(12, 25)] + [FULL, "slots 1\nride a 4 4", "slots 1\nride a 4 5"]
        for first in texts:
            for second in texts:
                one, other = System.parse(first), System.parse(second)
                self.assertEqual((one == other, one != other), (first == second, first != second))

    def test_systems_that_cost_the_same_are_not_equal(self):
        one, other = System.parse("slots 1\nride a 4 4"), System.parse("slots 2\nride a 4 4")
        self.assertFalse(one == other)
        self.assertTrue(one != other)

    def test_nothing_else_is_equal(self):
        system = System.parse(FULL)
        for value in (FULL, None, 0, True, (), [], {}, object(), System, [system], (system,)):
            self.assertIs(system == value, False)
            self.assertIs(value == system, False)
            self.assertIs(system != value, True)


class InvalidTextTest(unittest.TestCase):
    def assertRow(self, text, row):
        with self.assertRaises(InvalidText, msg=repr(text)) as caught:
            System.parse(text)
        self.assertEqual(caught.exception.row, row, repr(text))

    def test_missing_rows(self):
        self.assertRow("slots 1", 1)
        self.assertRow("slots 4\npeak 1", 2)

    def test_empty_rows(self):
        self.assertRow("", 0)
        self.assertRow("\n", 0)
        self.assertRow("\nslots 1\nride a 4 4", 0)
        self.assertRow("slots 1\n\nride a 4 4", 1)
        self.assertRow("slots 1\n", 1)
        self.assertRow("slots 4\npeak 1\n", 2)

    def test_a_newline_at_the_end(self):
        self.assertRow("slots 1\nride a 4 4\n", 2)
        self.assertRow(FULL + "\n", 7)
        self.assertRow("slots 1\nride a 4 4\n\n", 2)

    def test_the_first_row_is_slots(self):
        for word in ("peak 0", "ride a 4 4", "transfer 1 1", "cap 1", "bonus 2", "other", " ", "slot 1", "Slots 1"):
            self.assertRow(word, 0)
            self.assertRow(word + "\nslots 1\nride a 4 4", 0)

    def test_rows_before_the_rides(self):
        for row in ("transfer 1 1", "cap 1", "bonus 2", "slots 4", "other"):
            self.assertRow("slots 4\n%s\nride a 4 4" % row, 1)
            self.assertRow("slots 4\npeak 1\n%s\nride a 4 4" % row, 2)

    def test_a_doubled_row_of_peak_slots(self):
        self.assertRow("slots 4\npeak 1\npeak 2\nride a 4 4", 2)

    def test_rows_in_another_order(self):
        order = ["transfer 1 1", "cap 3", "bonus 2"]
        for first in range(3):
            for second in range(first + 1):
                text = "slots 1\nride a 4 4\n%s\n%s" % (order[first], order[second])
                self.assertRow(text, 3)
            for row in ("slots 1", "peak 0", "ride b 2 2"):
                self.assertRow("slots 1\nride a 4 4\n%s\n%s" % (order[first], row), 3)

    def test_rows_behind_the_rides(self):
        for row in ("slots 1", "peak 0", "peak", "other", "Cap 1", "caps 1", "transfers 1 1", "bonu 2"):
            self.assertRow("slots 1\nride a 4 4\n" + row, 2)

    def test_rows_behind_all_others(self):
        for row in FULL.split("\n"):
            self.assertRow(FULL + "\n" + row, 7)

    def test_the_first_of_several_wrong_rows(self):
        self.assertRow("slots 9\npeak 9\nride A 4 4", 0)
        self.assertRow("slots 4\npeak 4\nride A 4 4\nbonus 9", 1)
        self.assertRow("slots 4\nride a 4 4\nride a 4 4\nbonus 9", 2)
        self.assertRow("slots 4\nride a 4 4\nbonus 9\n\n", 2)

    def test_numbers_beyond_their_bounds(self):
        for word in ("0", "9", "10", "18"):
            self.assertRow("slots %s\nride a 4 4" % word, 0)
        for word in ("21", "30", "100"):
            self.assertRow("slots 1\nride a %s 4" % word, 1)
            self.assertRow("slots 1\nride a 4 %s" % word, 1)
            self.assertRow("slots 1\nride a 4 4\ntransfer 1 %s" % word, 2)
            self.assertRow("slots 1\nride a 4 4\ncap %s" % word, 2)
        for word in ("5", "10"):
            self.assertRow("slots 1\nride a 4 4\ntransfer %s 1" % word, 2)
            self.assertRow("slots 1\nride a 4 4\nbonus %s" % word, 2)
        for word in ("0", "1"):
            self.assertRow("slots 1\nride a 4 4\nbonus %s" % word, 2)

    def test_numbers_at_their_bounds(self):
        for text in (
            "slots 8\nride a 0 20\nride b 20 0",
            "slots 1\nride a 0 0\ntransfer 0 0\ncap 0\nbonus 2",
            "slots 1\nride a 20 20\ntransfer 4 20\ncap 20\nbonus 4",
        ):
            self.assertEqual(str(System.parse(text)), text)

    def test_other_ways_to_write_a_number(self):
        wrong = ["01", "001", "+1", "-1", "-0", "00", "1_0", "_1", "1_", "1.0", "1e0", "0x1", "one", "", "1,", "l", "I",
                 "1" * 5000, "0" * 4999 + "1", "-" + "9" * 6000, "1" + "0" * 9000, "{1}", "'1'", "\t1", "1\r"]
        for word in wrong:
            self.assertRow("slots %s\nride a 4 4" % word, 0)
            self.assertRow("slots 2\npeak %s\nride a 4 4" % word, 1)
            self.assertRow("slots 2\npeak 0 %s\nride a 4 4" % word, 1)
            self.assertRow("slots 2\nride a %s 4" % word, 1)
            self.assertRow("slots 2\nride a 4 %s" % word, 1)
            self.assertRow("slots 2\nride a 4 4\ntransfer %s 1" % word, 2)
            self.assertRow("slots 2\nride a 4 4\ntransfer 1 %s" % word, 2)
            self.assertRow("slots 2\nride a 4 4\ncap %s" % word, 2)
            self.assertRow("slots 2\nride a 4 4\nbonus %s" % word, 2)

    def test_leading_zeros_before_numbers_within_the_bounds(self):
        self.assertRow("slots 04\nride a 4 4", 0)
        self.assertRow("slots 1\nride a 04 4", 1)
        self.assertRow("slots 1\nride a 4 4\nbonus 03", 2)

    def test_peak_slots(self):
        for row in ("peak", "peak ", "peak 1 1", "peak 2 1", "peak 0 2 1", "peak 4", "peak 3 4", "peak 10", "peak 0 0"):
            self.assertRow("slots 4\n%s\nride a 4 4" % row, 1)
        self.assertRow("slots 1\npeak 1\nride a 4 4", 1)
        self.assertRow("slots 8\npeak 0 8\nride a 4 4", 1)
        self.assertRow("slots 4\npeak " + " ".join(["0"] * 4000) + "\nride a 4 4", 1)

    def test_kinds(self):
        for kind in ("A", "Z", "1", ".", "aa", "", "`", "{", "-", "0", "_"):
            self.assertRow("slots 1\nride %s 4 4" % kind, 1)
        self.assertRow("slots 1\nride b 4 4\nride a 4 4", 2)
        self.assertRow("slots 1\nride a 4 4\nride a 4 4", 2)
        self.assertRow("slots 1\nride a 4 4\nride c 4 4\nride b 4 4", 3)
        self.assertRow("slots 1\nride a 4 4\nride b 4 4\nride C 4 4", 3)

    def test_a_fourth_kind(self):
        rides = "ride a 4 4\nride b 4 4\nride c 4 4\nride d 4 4"
        self.assertRow("slots 1\n" + rides, 4)
        self.assertRow("slots 2\npeak 0\n" + rides, 5)

    def test_words_left_out_or_put_in(self):
        rows = FULL.split("\n")
        for at, row in enumerate(rows):
            words = row.split(" ")
            for place in range(len(words)):
                self.assert_other_row(rows, at, words[:place] + words[place + 1:])
            for place in range(len(words) + 1):
                for word in ("0", "x", "ride"):
                    self.assert_other_row(rows, at, words[:place] + [word] + words[place:])

    def assert_other_row(self, rows, at, words):
        # Only a row of peak slots may have fewer or more words.
        if words in (["peak", "1"], ["peak", "2"], ["peak", "0", "1", "2"]):
            return
        self.assertRow("\n".join(rows[:at] + [" ".join(words)] + rows[at + 1:]), at)

    def test_spaces(self):
        rows = FULL.split("\n")
        for at, row in enumerate(rows):
            for other in [" " + row, row + " "] + [
                row[:place] + " " + row[place:] for place, sign in enumerate(row) if sign == " "
            ]:
                self.assertRow("\n".join(rows[:at] + [other] + rows[at + 1:]), at)

    def test_a_very_long_text(self):
        self.assertRow("slots 1\n" + "ride a 4 4\n" * 900, 2)
        self.assertRow("x" * 10000, 0)
        self.assertRow("\n" * 10000, 0)

    def test_each_changed_character(self):
        chance = random.Random(13)
        signs = "abz019 -+_.\nA~"
        for _ in range(1500):
            place = chance.randrange(len(FULL))
            text = FULL[:place] + chance.choice(signs) + FULL[place + chance.randint(0, 1):]
            try:
                self.assertEqual(str(System.parse(text)), text)
            except InvalidText as error:
                self.assertLessEqual(error.row, len(text.split("\n")))
            except TooLarge as error:
                self.assertEqual(error.bound, 100)


class TooLargeTest(unittest.TestCase):
    big = "slots 8\nride a 1 2\ntransfer 4 1\ncap 20\nbonus 4"

    def test_behind_the_text(self):
        with self.assertRaises(TooLarge) as caught:
            System.parse(self.big)
        self.assertEqual(caught.exception.bound, 100)

    def test_a_wrong_text_comes_first(self):
        for text, row in ((self.big + "\n", 5), (self.big + "\nbonus 4", 5), (self.big.replace("bonus 4", "bonus 5"), 4)):
            with self.assertRaises(InvalidText) as caught:
                System.parse(text)
            self.assertEqual(caught.exception.row, row)


if __name__ == "__main__":
    unittest.main()
