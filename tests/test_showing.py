"""[42]: the texts of values, and of which there are none."""

import unittest

from plainspeak.compiling import compiled
from plainspeak.errors import NotDone, TooLong
from plainspeak.machine import Machine
from samples import BUILD, GREATEST, LEAST, NUM, SPIN, TRAP, doubled, ended, machine_of

# Lists of so many numbers of eight figures, with others ahead.
EIGHTS = "(rec b p (pair int (list int)) (list int) (if (less (first p) 1) (second p)" \
         " (call b (pair (minus (first p) 1) (cons 12345678 (second p))))))"


def eights(count, ahead=()):
    text = f"(call {EIGHTS} (pair {count} (nil int)))"
    for number in reversed(ahead):
        text = f"(cons {number} {text})"
    return text


class TestTexts(unittest.TestCase):
    def test_each_kind(self):
        for text, shown in [
            ("0", "0"), ("-0", "0"), ("007", "7"), ("-250", "-250"), (str(LEAST), str(LEAST)),
            (str(GREATEST), str(GREATEST)), ("true", "true"), ("false", "false"), ("(nil int)", "[]"),
            ("(nil (list int))", "[]"), ("(cons 1 (nil int))", "[1]"), ("(cons 1 (cons -2 (cons 3 (nil int))))", "[1,-2,3]"),
            ("(cons true (cons false (nil bool)))", "[true,false]"), ("(pair 1 2)", "(1,2)"),
            ("(pair 0 false)", "(0,false)"), ("(pair 1 true)", "(1,true)"), ("(pair (nil int) true)", "([],true)"),
            ("(pair (pair 1 2) (pair 3 4))", "((1,2),(3,4))"), ("(pair (cons 1 (nil int)) (pair true 2))", "([1],(true,2))"),
            ("(cons (nil int) (nil (list int)))", "[[]]"),
            ("(cons (nil int) (cons (cons 1 (cons 2 (nil int))) (cons (nil int) (nil (list int)))))", "[[],[1,2],[]]"),
            ("(cons (pair 1 true) (cons (pair 2 false) (nil (pair int bool))))", "[(1,true),(2,false)]"),
            ("(fn x int x)", "fn"), ("(rec f x int int x)", "fn"), ("(let y (pair 1 2) (fn x int (first y)))", "fn"),
            ("(cons (fn x int x) (cons (rec f x int int x) (nil (fun int int))))", "[fn,fn]"),
            ("(pair (fn x int x) (nil (fun int int)))", "(fn,[])"),
            ("(let x (pair 1 2) (pair x x))", "((1,2),(1,2))"),
            ("(let x (cons 1 (nil int)) (cons x (cons x (nil (list int)))))", "[[1],[1]]"),
            ("(let x (cons 2 (nil int)) (pair (cons 1 x) x))", "([1,2],[2])"),
            ("(let x (nil int) (cons x (cons (cons 0 x) (nil (list int)))))", "[[],[0]]"),
            ("(same 1 1)", "true"), ("(minus 1 1)", "0"),
        ]:
            with self.subTest(text=text):
                self.assertEqual(ended(text).shown(), shown)

    def test_asked_twice(self):
        machine = ended("(pair 1 (cons true (nil bool)))")
        self.assertEqual([machine.shown(), machine.shown()], ["(1,[true])"] * 2)
        machine.collect()
        self.assertEqual(machine.shown(), "(1,[true])")

    def test_a_list_as_long_as_the_room_allows(self):
        self.assertEqual(ended(f"(call {BUILD} (pair 197 (nil int)))").shown(),
                         "[" + ",".join(str(number) for number in range(1, 198)) + "]")


class TestTooLong(unittest.TestCase):
    def test_a_list_of_1000_signs(self):
        shown = ended(eights(111)).shown()
        self.assertEqual(len(shown), 1000)
        self.assertEqual(shown, "[" + ",".join(["12345678"] * 111) + "]")

    def test_a_list_of_1001_signs(self):
        self.assertEqual(len(ended(eights(109, [1234567, 123456789])).shown()), 1000)
        for ahead in [[123456789], [-12345678]]:
            machine = ended(eights(110, ahead))
            with self.assertRaises(TooLong):
                machine.shown()
            self.assertEqual(machine.run(1), "done")
            self.assertEqual(machine.collect(), 111)

    def test_pairs_of_1000_and_1001_signs(self):
        self.assertEqual(len(ended(f"(pair 123456 {eights(110)})").shown()), 1000)
        self.assertEqual(len(ended(f"(pair {eights(110)} 123456)").shown()), 1000)
        for text in [f"(pair 1234567 {eights(110)})", f"(pair {eights(110)} 1234567)"]:
            self.assertRaises(TooLong, ended(text).shown)

    def test_truths_and_functions_count(self):
        # Brackets and commas about a list of 991 signs and one of the other things.
        self.assertEqual(len(ended(f"(pair {eights(110)} false)").shown()), 999)
        self.assertEqual(len(ended(f"(pair {eights(110)} (pair 1 2))").shown()), 999)
        self.assertEqual(len(ended(f"(pair {eights(110)} (pair 1 (fn x int x)))").shown()), 1000)
        self.assertRaises(TooLong, ended(f"(pair {eights(110)} (pair (nil int) (fn x int x)))").shown)
        self.assertRaises(TooLong, ended(f"(pair {eights(110)} (pair true 1))").shown)

    def test_one_thing_held_many_times(self):
        for times, long in [(1, False), (6, False), (7, False), (8, True), (20, True), (66, True)]:
            machine = Machine(compiled(doubled(times, NUM)), 400)
            machine.run(2000)
            with self.subTest(times=times):
                self.assertEqual(machine.collect(), times)
                if long:
                    self.assertRaises(TooLong, machine.shown)
                else:
                    # Two to so many numbers, and one fewer pairs with three signs each.
                    self.assertEqual(len(machine.shown()), 2 ** times + 3 * (2 ** times - 1))

    def test_a_list_of_one_list_many_times(self):
        part = ("let", "x", ("cons", NUM, ("nil", "int")), ("name", "x"))
        kind = ("list", "int")
        for _ in range(20):
            cells = ("nil", kind)
            for _ in range(3):
                cells = ("cons", ("name", "x"), cells)
            part, kind = ("let", "x", part, cells), ("list", kind)
        machine = Machine(compiled(part), 400)
        self.assertEqual(machine.run(2000), "done")
        self.assertRaises(TooLong, machine.shown)
        self.assertEqual(machine.collect(), 61)


class TestNotDone(unittest.TestCase):
    def test_ahead_of_the_first_step(self):
        machine = machine_of("1")
        self.assertRaises(NotDone, machine.shown)
        machine.run(0)
        self.assertRaises(NotDone, machine.shown)
        self.assertEqual(machine.run(16), "done")
        self.assertEqual(machine.shown(), "1")

    def test_while_it_runs(self):
        for text in [SPIN, f"(plus 1 {SPIN})", f"(pair 1 {SPIN})"]:
            machine = machine_of(text)
            for _ in range(50):
                self.assertEqual(machine.run(1), "running")
                self.assertRaises(NotDone, machine.shown)

    def test_of_each_trap(self):
        for text, trap in [
            (TRAP, "by nought"),
            ("(rest 1 0)", "by nought"),
            ("(head (nil int))", "of empty"),
            ("(tail (nil int))", "of empty"),
            ("(call (rec f n int int (plus 1 (call f n))) 1)", "too deep"),
            (f"(call {BUILD} (pair 500 (nil int)))", "no room"),
        ]:
            machine = ended(text)
            with self.subTest(text=text):
                self.assertEqual(machine.run(0), trap)
                self.assertRaises(NotDone, machine.shown)

    def test_not_done_ahead_of_too_long(self):
        machine = Machine(compiled(("pair", doubled(20, NUM), ("over", NUM, ("num", 0)))), 400)
        self.assertEqual(machine.run(2000), "by nought")
        self.assertRaises(NotDone, machine.shown)


if __name__ == "__main__":
    unittest.main()
