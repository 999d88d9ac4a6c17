"""The names in scope, as [20] and [30] need them."""

import unittest

from plainspeak.errors import NoName
from plainspeak.naming import looked_up, names_bound, outside_names, with_name
from plainspeak.reading import read
from samples import EVERY, FIT, deep_parts


class TestScope(unittest.TestCase):
    def test_looked_up(self):
        scope = with_name(with_name({}, "x", "int"), "y", "bool")
        self.assertEqual(looked_up(scope, "x"), "int")
        self.assertEqual(looked_up(scope, "y"), "bool")

    def test_the_innermost_holds(self):
        self.assertEqual(looked_up(with_name(with_name({}, "x", 1), "x", 2), "x"), 2)

    def test_the_outer_scope_is_as_it_was(self):
        outer = with_name({}, "x", 1)
        with_name(outer, "x", 2)
        with_name(outer, "y", 3)
        self.assertEqual(outer, {"x": 1})

    def test_what_nothing_binds(self):
        for scope in [{}, {"x": 1}]:
            with self.assertRaises(NoName) as caught:
                looked_up(scope, "y")
            self.assertEqual(caught.exception.name, "y")

    def test_a_name_may_be_bound_to_anything(self):
        for bound in [0, False, None, (), ""]:
            self.assertEqual(looked_up({"x": bound}, "x"), bound)


class TestNames(unittest.TestCase):
    def test_names_bound(self):
        for text, names in [
            ("(let x 1 y)", ["x"]),
            ("(fn x int y)", ["x"]),
            ("(rec f x int int y)", ["f", "x"]),
            ("(rec f f int int y)", ["f", "f"]),
            ("(plus x (let y 1 y))", []),
            ("(nil int)", []),
            ("x", []),
            ("1", []),
            ("true", []),
        ]:
            with self.subTest(text=text):
                self.assertEqual(names_bound(read(text)), names)

    def test_outside_names(self):
        for text, names in [
            ("1", []),
            ("true", []),
            ("(nil int)", []),
            ("x", ["x"]),
            ("(plus x y)", ["x", "y"]),
            ("(plus y (plus x y))", ["y", "x"]),
            ("(if a b c)", ["a", "b", "c"]),
            ("(let x 1 x)", []),
            ("(let x x 1)", ["x"]),
            ("(let x x x)", ["x"]),
            ("(let x y (plus x z))", ["y", "z"]),
            ("(let x (let y y x) y)", ["y", "x"]),
            ("(fn x int x)", []),
            ("(fn x int (plus x y))", ["y"]),
            ("(fn x int (fn y int (plus (plus x y) z)))", ["z"]),
            ("(rec f x int int (call f x))", []),
            ("(rec f x int int (call g y))", ["g", "y"]),
            ("(rec f f int int f)", []),
            ("(pair (fn x int x) x)", ["x"]),
            ("(pair x (fn x int x))", ["x"]),
            ("(call (rec f x int int x) f)", ["f"]),
        ]:
            with self.subTest(text=text):
                self.assertEqual(outside_names(read(text)), names)

    def test_what_fits_has_none_from_outside(self):
        for text, kind in FIT:
            self.assertEqual(outside_names(read(text)), [])
        for part, kind in deep_parts(70):
            self.assertEqual(outside_names(part), [])

    def test_what_is_told_is_the_askers_own(self):
        for part, text in EVERY:
            before = outside_names(part)
            outside_names(part).append("more")
            names_bound(part).append("more")
            self.assertEqual(outside_names(part), before)


if __name__ == "__main__":
    unittest.main()
