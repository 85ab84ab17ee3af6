import unittest

from trickfares import errors

FORMS = {
    "InvalidText": ("row",),
    "TooLarge": ("bound",),
    "UnknownLetter": ("place",),
    "NotComparable": (),
    "Unbounded": ("way", "round_trip", "rest"),
    "NoFactor": ("way", "round_trip"),
    "BadPlace": ("place",),
    "InvalidRow": ("row",),
    "UnknownName": ("name",),
}

VALUES = (0, -1, 10 ** 5000, True, None, "", "ab", (), (1, ("x", 2)), [], [("a", 1, (0, 0))], {}, {"a": [1]}, [[[]]])


class ErrorTest(unittest.TestCase):
    def test_base_class(self):
        self.assertEqual(errors.FareError.__bases__, (ValueError,))

    def test_each_is_a_direct_subclass(self):
        for name in FORMS:
            self.assertEqual(getattr(errors, name).__bases__, (errors.FareError,), name)

    def test_none_is_a_subclass_of_another_one(self):
        for name in FORMS:
            for other in FORMS:
                self.assertIs(issubclass(getattr(errors, name), getattr(errors, other)), name == other)

    def test_there_are_no_other_errors(self):
        subclasses = sorted(each.__name__ for each in errors.FareError.__subclasses__())
        self.assertEqual(subclasses, sorted(FORMS))

    def test_attributes_by_position(self):
        for name, words in FORMS.items():
            for value in VALUES:
                passed = [value, "second", ["third"]][:len(words)]
                error = getattr(errors, name)(*passed)
                self.assertEqual([getattr(error, word) for word in words], passed, name)

    def test_attributes_by_name(self):
        for name, words in FORMS.items():
            for value in VALUES:
                passed = dict(zip(reversed(words), [value, 7, None]))
                error = getattr(errors, name)(**passed)
                self.assertEqual({word: getattr(error, word) for word in words}, passed, name)

    def test_true_stays_true(self):
        self.assertIs(errors.InvalidText(True).row, True)
        self.assertIs(errors.UnknownName([False]).name[0], False)

    def test_objects_stay_the_same(self):
        value = object()
        for name, words in FORMS.items():
            error = getattr(errors, name)(*[value] * len(words))
            for word in words:
                self.assertIs(getattr(error, word), value)

    def test_wrong_numbers_of_arguments(self):
        for name, words in FORMS.items():
            with self.assertRaises(TypeError):
                getattr(errors, name)(*[0] * (len(words) + 1))
            if words:
                with self.assertRaises(TypeError):
                    getattr(errors, name)()

    def test_lists_and_dicts_are_copied(self):
        for name, words in FORMS.items():
            for at, word in enumerate(words):
                inner = [1]
                for value in (inner, [inner], (0, inner), {"k": inner}, [({"k": [inner]},)]):
                    passed = [0] * len(words)
                    passed[at] = value
                    error = getattr(errors, name)(*passed)
                    before = repr(value)
                    inner.append(2)
                    self.assertEqual(repr(getattr(error, word)), before, name)

    def test_raised_and_caught(self):
        for name, words in FORMS.items():
            for kind in (errors.FareError, ValueError, getattr(errors, name)):
                with self.assertRaises(kind):
                    raise getattr(errors, name)(*[5] * len(words))

    def test_messages_are_texts_for_any_value(self):
        for name, words in FORMS.items():
            for value in VALUES:
                self.assertTrue(str(getattr(errors, name)(*[value] * len(words))))


if __name__ == "__main__":
    unittest.main()
