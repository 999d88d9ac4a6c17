"""[11] and [12]: the texts of parts."""

import copy
import unittest

from plainspeak.reading import read, written
from samples import EVERY, WORDS


class TestWritten(unittest.TestCase):
    def test_the_samples_hold_every_word(self):
        self.assertEqual(len(WORDS), 32)
        self.assertEqual(len(set(WORDS)), 32)

    def test_each_text(self):
        for part, text in EVERY:
            with self.subTest(text=text):
                self.assertEqual(written(part), text)

    def test_read_back(self):
        for part, text in EVERY:
            with self.subTest(text=text):
                self.assertEqual(read(written(part)), part)
                self.assertEqual(written(read(text)), text)

    def test_seventy_within_one_another(self):
        for depth in [29, 30, 31, 69, 70, 75]:
            part, text = ("truth", False), "false"
            for _ in range(depth):
                part, text = ("not", part), "(not " + text + ")"
            with self.subTest(depth=depth):
                self.assertEqual(written(part), text)

    def test_seventy_around_a_kind_of_forty(self):
        kind, text = "int", "int"
        for _ in range(40):
            kind, text = ("list", kind), "(list " + text + ")"
        part, text = ("nil", kind), "(nil " + text + ")"
        for _ in range(69):
            part, text = ("if", ("truth", True), part, ("name", "x")), "(if true " + text + " x)"
        self.assertEqual(written(part), text)

    def test_long_texts_are_written_too(self):
        part, text = ("num", -1), "-1"
        for _ in range(9):
            part, text = ("plus", part, part), "(plus " + text + " " + text + ")"
        self.assertGreater(len(text), 2000)
        self.assertEqual(written(part), text)

    def test_changes_nothing_and_tells_the_same_again(self):
        for part, text in EVERY:
            before = copy.deepcopy(part)
            self.assertEqual(written(part), text)
            self.assertEqual(written(part), text)
            self.assertEqual(part, before)


if __name__ == "__main__":
    unittest.main()
