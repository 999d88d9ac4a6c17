"""[10]: the texts of kinds."""

import copy
import unittest

from plainspeak.kinds import kind_text

KINDS = [
    ("int", "int"),
    ("bool", "bool"),
    (("list", "int"), "(list int)"),
    (("list", "bool"), "(list bool)"),
    (("pair", "int", "bool"), "(pair int bool)"),
    (("pair", "bool", "int"), "(pair bool int)"),
    (("fun", "int", "bool"), "(fun int bool)"),
    (("fun", "bool", "int"), "(fun bool int)"),
    (("pair", "int", ("list", "bool")), "(pair int (list bool))"),
    (("pair", ("list", "bool"), "int"), "(pair (list bool) int)"),
    (("list", ("list", "int")), "(list (list int))"),
    (("fun", ("fun", "int", "bool"), ("fun", "bool", "int")), "(fun (fun int bool) (fun bool int))"),
    (
        ("list", ("pair", ("fun", "int", ("list", "int")), ("pair", "bool", "bool"))),
        "(list (pair (fun int (list int)) (pair bool bool)))",
    ),
]


def nested(depth):
    """A kind with so many others around one another, its text built beside it."""
    kind, text = "int", "int"
    for level in range(depth):
        if level % 3 == 0:
            kind, text = ("list", kind), "(list " + text + ")"
        elif level % 3 == 1:
            kind, text = ("pair", "bool", kind), "(pair bool " + text + ")"
        else:
            kind, text = ("fun", kind, "int"), "(fun " + text + " int)"
    return kind, text


class TestKindText(unittest.TestCase):
    def test_each_sort(self):
        for kind, text in KINDS:
            with self.subTest(text=text):
                self.assertEqual(kind_text(kind), text)

    def test_many_within_one_another(self):
        for depth in range(0, 61):
            kind, text = nested(depth)
            with self.subTest(depth=depth):
                self.assertEqual(kind_text(kind), text)

    def test_forty_lists(self):
        kind = "bool"
        for _ in range(40):
            kind = ("list", kind)
        self.assertEqual(kind_text(kind), "(list " * 40 + "bool" + ")" * 40)

    def test_broad_kinds(self):
        kind, text = "int", "int"
        for _ in range(10):
            kind, text = ("pair", kind, kind), "(pair " + text + " " + text + ")"
        self.assertEqual(kind_text(kind), text)

    def test_changes_nothing_and_tells_the_same_again(self):
        for kind, text in KINDS:
            before = copy.deepcopy(kind)
            self.assertEqual(kind_text(kind), kind_text(kind))
            self.assertEqual(kind, before)


if __name__ == "__main__":
    unittest.main()
