import random
import unittest

from tests.account import TRICKS, random_pairs
from tests.model import Model, random_history
from trickfares.compare import most_dearer
from trickfares.console import Console
from trickfares.errors import InvalidRow, InvalidText, NotComparable, TooLarge, UnknownLetter, UnknownName
from trickfares.fares import System
from trickfares.tricks import gain

OLD = "slots 1\nride a 4 4\nride b 2 2\ntransfer 0 1"
NEW = "slots 1\nride a 4 4\nride b 2 2"
OTHER = "slots 1\nride c 4 4"
# A system of 100 states, for which some nets are too large.
LARGE = "slots 5\nride c 6 6\ncap 20\nbonus 4"

INVALID = (
    # Unknown words, and words that are missing or too many.
    "", "x", "name", "namesx", "help", "old", "show", "cost", "cost old", "trick", "trick old", "compare",
    "compare old", "system", "system old", "system old new", "names old", "names names", "show old new", "show old old",
    "cost old a b", "cost old a .", "trick old more more", "trick more", "compare old new other", "compare old old old",
    # Spaces at the beginning, at the end or two together.
    " ", "  ", " names", "names ", "  names", " show old", "show old ", "show  old", "show ", "cost old ", "cost old a ",
    "cost  old a", "cost old  a", " cost old a", "trick old  more", "trick old more ", "compare old new ", "compare old ",
    "compare  old new", "cost old", "cost old ..a ",
    # Names of no letters or of more than eight, capitals, digits and other characters.
    "show abcdefghi", "cost abcdefghi a", "trick abcdefghi more", "compare abcdefghi old", "compare old abcdefghi",
    "show Old", "show OLD", "show old1", "show 1", "show o.d", "show .", "show o-d", "show old,", "compare old New",
    "compare Old new", "cost Old a", "trick Old more", "show ~", "show {", "show `",
    # Other words in capitals.
    "Names", "NAMES", "Show old", "COST old a", "cost old A", "trick old More", "trick old MORE", "Compare old new",
    # Histories and tricks that are none.
    "cost old a1", "cost old a-b", "cost old a,b", "cost old aB", "cost old a;", "cost old 7", "trick old less",
    "trick old card", "trick old moremore", "trick old a", "trick old mor", "trick old ore", "trick old later,earlier",
    # Line feeds in rows that have none.
    "\n", "names\n", "\nnames", "na\nmes", "show old\n", "show\nold", "cost old a\n", "cost old a\nb", "cost old\na",
    "trick old more\n", "compare old new\n", "compare old\nnew", "show old\n" + OLD, "names\n" + OLD, "\n" + OLD, OLD,
    "old\n" + OLD,
    # A system whose row has no form up to the newline.
    "system\nslots 1", "system \nslots 1", "system\n" + OLD, "system \n" + OLD, "system  old\n" + OLD,
    " system old\n" + OLD, "system old \n" + OLD, "system old new\n" + OLD, "system abcdefghi\n" + OLD,
    "system Old\n" + OLD, "system o1d\n" + OLD, "System old\n" + OLD, "systemold\n" + OLD, "systems old\n" + OLD,
    "system .\n" + OLD, "system old " + OLD, "system\nold\n" + OLD,
)


def filled(**texts):
    console = Console()
    for name, text in texts.items():
        console.answer("system %s\n%s" % (name, text))
    return console


def all_answers(console):
    """What a console tells about all that it keeps."""
    told = [console.answer("names")]
    if told != ["none"]:
        told += [console.answer("show " + name) for name in told[0].split(" ")]
    return told


class ConsoleCase(unittest.TestCase):
    def assertRefused(self, console, asked, error, /, **attributes):
        before = all_answers(console)
        with self.assertRaises(error, msg=repr(asked)) as caught:
            console.answer(asked)
        self.assertEqual(vars(caught.exception), attributes)
        self.assertEqual(all_answers(console), before)

    def assertNoForm(self, console, row):
        self.assertRefused(console, row, InvalidRow, row=row)


class AnswerTest(ConsoleCase):
    def test_the_example(self):
        console = Console()
        self.assertEqual(console.answer("system old\n" + OLD), "ok")
        self.assertEqual(console.answer("cost old ba"), "3")
        self.assertEqual(console.answer("trick old shared"), "unbounded")
        self.assertEqual(console.answer("compare old old"), "0")

    def test_names(self):
        console = Console()
        self.assertEqual(console.answer("names"), "none")
        for name, names in (("mid", "mid"), ("zeta", "mid zeta"), ("a", "a mid zeta"), ("aa", "a aa mid zeta"),
                            ("mid", "a aa mid zeta"), ("z", "a aa mid z zeta"), ("abcdefgh", "a aa abcdefgh mid z zeta")):
            self.assertEqual(console.answer("system %s\n%s" % (name, OLD)), "ok")
            self.assertEqual(console.answer("names"), names)

    def test_a_system_called_none(self):
        self.assertEqual(filled(none=OLD).answer("names"), "none")

    def test_words_of_forms_as_names(self):
        names = ("compare", "cost", "more", "names", "ok", "show", "system", "trick")
        console = filled(**{name: OLD for name in names})
        self.assertEqual(console.answer("names"), " ".join(names))
        self.assertEqual(console.answer("show show"), OLD)
        self.assertEqual(console.answer("cost cost b"), "2")
        self.assertEqual(console.answer("trick more more"), "1")
        self.assertEqual(console.answer("compare compare names"), "0")

    def test_show(self):
        texts = {"old": OLD, "new": NEW, "large": LARGE, "peaks": "slots 8\npeak 0 7\nride z 0 20\ntransfer 4 0\nbonus 2"}
        console = filled(**texts)
        for name, text in texts.items():
            self.assertEqual(console.answer("show " + name), text)

    def test_a_system_is_replaced(self):
        console = filled(old=OLD, new=NEW)
        self.assertEqual([console.answer("show old"), console.answer("cost old aa")], [OLD, "5"])
        self.assertEqual(console.answer("system old\n" + OTHER), "ok")
        self.assertEqual(all_answers(console), ["new old", NEW, OTHER])
        self.assertEqual(console.answer("cost old cc"), "8")
        self.assertRefused(console, "cost old aa", UnknownLetter, place=0)

    def test_cost(self):
        console = filled(old=OLD)
        for history, cost in (("a", "4"), (".", "0"), ("a.a", "8"), ("bab..a", "8"), ("b" * 5000, "5001")):
            self.assertEqual(console.answer("cost old " + history), cost)

    def test_cost_of_random_histories(self):
        chance = random.Random(141)
        model = Model(3, {"d": (4, 6), "e": (2, 1)}, peak=(1,), transfer=(1, 1), bonus=2)
        console = filled(x=model.text())
        for _ in range(50):
            history = random_history(chance, model.letters, 30) + "e"
            self.assertEqual(console.answer("cost x " + history), "%d" % sum(model.costs(history)))

    def test_trick(self):
        console = filled(old=OLD, plain="slots 1\nride a 7 7\nride b 5 5")
        self.assertEqual([console.answer("trick old " + trick) for trick in TRICKS], ["1", "3", "3", "0", "unbounded"])
        self.assertEqual([console.answer("trick plain " + trick) for trick in TRICKS], ["-5", "0", "0", "0", "0"])

    def test_compare(self):
        console = filled(old=OLD, new=NEW, bonus="slots 1\nride a 4 4\nbonus 2", half="slots 1\nride a 2 2")
        told = [console.answer("compare " + names) for names in ("old new", "new old", "new new", "bonus half")]
        self.assertEqual(told, ["0", "unbounded", "0", "2"])

    def test_tricks_and_comparisons_are_what_the_functions_tell(self):
        found = set()
        for pair in random_pairs(142, 60, 150):
            texts = [account.model.text() for account in pair]
            console = filled(one=texts[0], two=texts[1])
            first, second = [System.parse(text) for text in texts]
            asked = {"compare one two": (most_dearer, first, second), "compare two one": (most_dearer, second, first)}
            asked.update({"trick one " + trick: (gain, first, trick) for trick in TRICKS})
            for row, (function, *passed) in asked.items():
                try:
                    told = function(*passed)
                except TooLarge:
                    self.assertRefused(console, row, TooLarge, bound=600)
                else:
                    self.assertEqual(console.answer(row), "unbounded" if told is None else "%d" % told)
                    found.add(told is None)
        self.assertEqual(found, {True, False})

    def test_two_consoles(self):
        first, second = filled(old=OLD), filled(old=NEW)
        self.assertEqual([first.answer("show old"), second.answer("show old")], [OLD, NEW])
        self.assertEqual(Console().answer("names"), "none")

    def test_answers_are_texts(self):
        console = filled(old=OLD)
        for row in ("names", "show old", "cost old a", "trick old more", "trick old shared", "compare old old"):
            self.assertIs(type(console.answer(row)), str)


class InvalidRowTest(ConsoleCase):
    def test_rows_of_no_form(self):
        for console in (Console(), filled(old=OLD, new=NEW)):
            for row in INVALID:
                self.assertNoForm(console, row)

    def test_other_characters(self):
        console = filled(old=OLD)
        for code in range(32, 127):
            sign = chr(code)
            if not "a" <= sign <= "z":
                self.assertNoForm(console, "show o%sd" % sign)
                if sign != ".":
                    self.assertNoForm(console, "cost old a%sb" % sign)
                self.assertNoForm(console, "trick old %s" % sign)
                self.assertNoForm(console, "system %s\n%s" % (sign, NEW))

    def test_each_letter_is_one_of_names(self):
        console = Console()
        for sign in "abcdefghijklmnopqrstuvwxyz":
            self.assertEqual(console.answer("system %s\nslots 1\nride %s 1 1" % (sign, sign)), "ok")
            self.assertEqual(console.answer("cost %s %s" % (sign, sign * 3)), "3")
        self.assertEqual(console.answer("names"), " ".join("abcdefghijklmnopqrstuvwxyz"))

    def test_names_of_one_to_eight_letters(self):
        console = Console()
        for many in range(0, 12):
            row = "system %s\n%s" % ("q" * many, OLD)
            if 1 <= many <= 8:
                self.assertEqual(console.answer(row), "ok")
                self.assertEqual(console.answer("show " + "q" * many), OLD)
            else:
                self.assertNoForm(console, row)
                self.assertNoForm(console, "show " + "q" * many)

    def test_invalid_rows_come_ahead_of_unknown_names(self):
        for row in ("cost gone A", "trick gone less", "compare gone Old", "show gone ", "compare gone gone gone"):
            self.assertNoForm(Console(), row)

    def test_long_rows(self):
        console = filled(old=OLD)
        for row in ("x" * 10000, "names" * 2000, "show " + "a" * 9995, " " * 10000, "cost old a" + "a " * 4000):
            self.assertNoForm(console, row)


class OtherErrorTest(ConsoleCase):
    def test_the_first_unknown_name(self):
        for console in (Console(), filled(new=NEW)):
            for row in ("show old", "cost old a", "cost old zzz", "trick old more", "compare old new", "compare old old",
                        "compare old gone"):
                self.assertRefused(console, row, UnknownName, name="old")
        console = filled(new=NEW)
        self.assertRefused(console, "compare new old", UnknownName, name="old")
        self.assertRefused(console, "show abcdefgh", UnknownName, name="abcdefgh")
        self.assertRefused(console, "show ne", UnknownName, name="ne")
        self.assertRefused(console, "show neww", UnknownName, name="neww")

    def test_wrong_texts_have_a_form(self):
        wrong = (("", 0), ("\n", 0), ("slots 1", 1), ("slots 1\n", 1), ("slots 1\nride a 4", 1), (" " + OLD, 0),
                 ("\n" + OLD, 0), (OLD + "\n", 4), (OLD + "\ncap 21", 4), ("names", 0), ("system old\n" + OLD, 0))
        for console in (Console(), filled(old=OLD), filled(new=NEW)):
            for text, row in wrong:
                self.assertRefused(console, "system old\n" + text, InvalidText, row=row)

    def test_too_many_states(self):
        text = "slots 7\nride x 8 6\ntransfer 4 5\ncap 10"
        for console in (Console(), filled(old=OLD)):
            self.assertRefused(console, "system old\n" + text, TooLarge, bound=100)

    def test_too_many_nodes(self):
        console = filled(large=LARGE, row="slots 7\nride c 6 6\ncap 20")
        self.assertRefused(console, "compare large row", TooLarge, bound=600)
        self.assertRefused(console, "trick large cards", TooLarge, bound=600)
        self.assertEqual(console.answer("compare large large"), "0")

    def test_unknown_letters(self):
        console = filled(old=OLD)
        for history, place in (("c", 0), ("abz", 2), ("..x..y", 2), ("a" * 100 + "c", 100)):
            self.assertRefused(console, "cost old " + history, UnknownLetter, place=place)

    def test_other_letters(self):
        console = filled(old=OLD, other=OTHER, large=LARGE, b="slots 7\nride b 6 6\ncap 20")
        self.assertRefused(console, "compare old other", NotComparable)
        self.assertRefused(console, "compare other old", NotComparable)
        self.assertRefused(console, "compare large b", NotComparable)

    def test_what_was_kept_stays_after_an_error(self):
        console = filled(old=OLD)
        self.assertRefused(console, "system old\nslots 9", InvalidText, row=0)
        self.assertRefused(console, "system next\nslots 9", InvalidText, row=0)
        self.assertRefused(console, "show next", UnknownName, name="next")
        self.assertEqual(console.answer("cost old ba"), "3")


if __name__ == "__main__":
    unittest.main()
