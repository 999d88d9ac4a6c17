"""[2]: the refusals, their texts and their fields."""

import unittest

from plainspeak import errors
from plainspeak.errors import (
    BadRow, BadText, NoMachine, NoName, NoRoom, NotDone, SpeakError, TooLong, Unfit,
)

REFUSALS = [BadText, NoName, Unfit, TooLong, NotDone, NoRoom, NoMachine, BadRow]
TEXTS = ["", "x", "a text of some words", "two\nrows", "('x', 1)", "100%"]


class TestClasses(unittest.TestCase):
    def test_speak_error_stands_straight_under_value_error(self):
        self.assertEqual(SpeakError.__bases__, (ValueError,))

    def test_each_stands_straight_under_speak_error(self):
        for refusal in REFUSALS:
            with self.subTest(refusal=refusal.__name__):
                self.assertEqual(refusal.__bases__, (SpeakError,))

    def test_none_stands_under_another(self):
        for one in REFUSALS:
            for other in REFUSALS:
                with self.subTest(one=one.__name__, other=other.__name__):
                    self.assertEqual(issubclass(one, other), one is other)

    def test_there_are_these_alone(self):
        classes = [value for value in vars(errors).values() if isinstance(value, type)]
        self.assertEqual(set(classes), set(REFUSALS + [SpeakError]))


class TestCaught(unittest.TestCase):
    def test_caught_as_itself_and_those_above(self):
        for refusal in REFUSALS:
            for above in [refusal, SpeakError, ValueError]:
                with self.subTest(refusal=refusal.__name__, above=above.__name__):
                    with self.assertRaises(above) as caught:
                        raise refusal("words")
                    self.assertIs(type(caught.exception), refusal)

    def test_not_caught_as_any_other(self):
        for refusal in REFUSALS:
            others = tuple(other for other in REFUSALS if other is not refusal)
            with self.subTest(refusal=refusal.__name__):
                try:
                    raise refusal("words")
                except others:
                    self.fail("caught as another")
                except SpeakError:
                    pass


class TestTexts(unittest.TestCase):
    def test_str_is_the_text(self):
        for refusal in REFUSALS + [SpeakError]:
            for text in TEXTS:
                with self.subTest(refusal=refusal.__name__, text=text):
                    self.assertEqual(str(refusal(text)), text)

    def test_str_is_the_text_also_with_a_field(self):
        for text in TEXTS:
            with self.subTest(text=text):
                self.assertEqual(str(BadText(text, 17)), text)
                self.assertEqual(str(NoName(text, "x")), text)


class TestFields(unittest.TestCase):
    def test_at_by_place(self):
        for at in [0, 1, 17, 2000]:
            self.assertEqual(BadText("words", at).at, at)

    def test_at_is_nought_else(self):
        at = BadText("words").at
        self.assertEqual(at, 0)
        self.assertIs(type(at), int)

    def test_name_by_place(self):
        for name in ["", "x", "abc12345"]:
            self.assertEqual(NoName("words", name).name, name)

    def test_name_is_the_empty_text_else(self):
        self.assertEqual(NoName("words").name, "")

    def test_each_object_has_its_own(self):
        first = BadText("words", 3)
        second = BadText("words", 4)
        self.assertEqual((first.at, second.at), (3, 4))

    def test_fields_outlive_raising(self):
        with self.assertRaises(BadText) as caught:
            raise BadText("words", 5)
        self.assertEqual(caught.exception.at, 5)
        with self.assertRaises(NoName) as caught:
            raise NoName("words", "ab")
        self.assertEqual(caught.exception.name, "ab")


if __name__ == "__main__":
    unittest.main()
