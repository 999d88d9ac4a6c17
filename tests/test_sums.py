"""[31]: the seven words of two numbers, at the bounds, at nought and with both signs."""

import unittest

from plainspeak.compiling import compiled
from plainspeak.machine import Machine
from plainspeak.sums import is_by_nought, sum_of
from samples import GREATEST, LEAST, SUMS

NUMBERS = [
    LEAST, LEAST + 1, LEAST // 2, -(2 ** 32), -10, -7, -3, -2, -1, 0, 1, 2, 3, 7, 10, 2 ** 31, 2 ** 32, 2 ** 62,
    GREATEST - 1, GREATEST,
]


def reckoned(word, one, other):
    """What a machine comes to."""
    machine = Machine(compiled((word, ("num", one), ("num", other))), 8)
    stands = machine.run(24)
    return machine.shown() if stands == "done" else stands


def expected(word, one, other):
    if word in ["over", "rest"] and other == 0:
        return "by nought"
    return str(SUMS[word](one, other)).lower()


TOLD = [
    ("plus", GREATEST, 1, LEAST), ("plus", LEAST, -1, GREATEST), ("plus", GREATEST, GREATEST, -2),
    ("plus", LEAST, LEAST, 0), ("plus", LEAST, GREATEST, -1),
    ("minus", LEAST, 1, GREATEST), ("minus", GREATEST, -1, LEAST), ("minus", 0, LEAST, LEAST), ("minus", 5, 7, -2),
    ("times", GREATEST, 2, -2), ("times", LEAST, 2, 0), ("times", LEAST, -1, LEAST), ("times", LEAST, LEAST, 0),
    ("times", GREATEST, GREATEST, 1), ("times", 2 ** 32, 2 ** 32, 0), ("times", 2 ** 32, 2 ** 31, LEAST),
    ("times", -3, 4, -12),
    ("over", 7, 2, 3), ("over", -7, 2, -3), ("over", 7, -2, -3), ("over", -7, -2, 3), ("over", 0, -5, 0),
    ("over", 1, 2, 0), ("over", -1, 2, 0), ("over", LEAST, -1, LEAST), ("over", LEAST, 1, LEAST),
    ("over", GREATEST, -1, -GREATEST), ("over", LEAST, LEAST, 1), ("over", GREATEST, LEAST, 0),
    ("over", LEAST, GREATEST, -1), ("over", LEAST, 2, LEAST // 2),
    ("rest", 7, 2, 1), ("rest", -7, 2, -1), ("rest", 7, -2, 1), ("rest", -7, -2, -1), ("rest", 6, 3, 0),
    ("rest", -6, 3, 0), ("rest", 0, -5, 0), ("rest", LEAST, -1, 0), ("rest", LEAST, GREATEST, -1),
    ("rest", GREATEST, LEAST, GREATEST), ("rest", LEAST, 10, -8),
]


class TestSums(unittest.TestCase):
    def test_numbers_told(self):
        for word, one, other, told in TOLD:
            with self.subTest(word=word, one=one, other=other):
                self.assertEqual(reckoned(word, one, other), str(told))
                self.assertEqual(sum_of(word, one, other), told)

    def test_all_of_two(self):
        for word in SUMS:
            for one in NUMBERS:
                for other in NUMBERS:
                    with self.subTest(word=word, one=one, other=other):
                        self.assertEqual(reckoned(word, one, other), expected(word, one, other))

    def test_by_nought(self):
        for word in SUMS:
            for one in NUMBERS:
                with self.subTest(word=word, one=one):
                    self.assertEqual(reckoned(word, one, 0) == "by nought", word in ["over", "rest"])
            self.assertEqual(is_by_nought(word, 0), word in ["over", "rest"])
            self.assertFalse(is_by_nought(word, 1))

    def test_numbers_and_truths_are_told_as_such(self):
        for word in SUMS:
            self.assertIs(type(sum_of(word, 5, 3)), bool if word in ["less", "same"] else int)


if __name__ == "__main__":
    unittest.main()
