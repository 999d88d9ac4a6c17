"""[30], [32] and [33]: what is reckoned and in which order, names, last places, pending calls, and room."""

import unittest

from plainspeak.compiling import compiled
from plainspeak.machine import Machine
from plainspeak.reading import read
from plainspeak.words import values_behind
from samples import BUILD, FIT, LOOP, PART_WORDS, RUNS, SUM, TRAP, UPTO, came_to, deep_parts, ended, told_by

OF_EMPTY = "(head (nil int))"

# A part that makes so many things and keeps none of them, to be laid around with others.
WASTE = "(first (pair 0 (cons 1 (cons 2 (nil int)))))"


def words_in(part):
    found = [part[0]]
    for inner in values_behind(part, "part"):
        found.extend(words_in(inner))
    return found


class TestReckoning(unittest.TestCase):
    def test_what_they_come_to(self):
        for text, told in RUNS:
            with self.subTest(text=text):
                self.assertEqual(came_to(text), told)

    def test_every_word_is_run(self):
        found = set()
        for text, told in RUNS:
            found.update(words_in(read(text)))
        self.assertEqual(found, set(PART_WORDS) | {"num", "truth", "name"})

    def test_parts_that_fit_come_to_an_end(self):
        # Of all of these only calls of functions that call themselves would go on for ever, and none is called so.
        for text, kind in FIT:
            with self.subTest(text=text):
                self.assertNotEqual(came_to(text), "running")

    def test_a_value_is_of_the_kind_that_the_part_has(self):
        # Of pairs, lists and functions the texts show it.
        for text, kind in FIT:
            told = came_to(text)
            if told == "of empty":
                continue
            with self.subTest(text=text):
                if kind == "bool":
                    self.assertIn(told, ["true", "false"])
                elif kind == "int":
                    self.assertEqual(str(int(told)), told)
                else:
                    self.assertEqual({"list": "[", "pair": "(", "fun": "f"}[kind[0]], told[0])

    def test_from_the_left(self):
        for word in ["plus", "minus", "times", "over", "rest", "less", "same", "pair"]:
            with self.subTest(word=word):
                self.assertEqual(came_to(f"({word} {TRAP} {OF_EMPTY})"), "by nought")
                self.assertEqual(came_to(f"({word} {OF_EMPTY} {TRAP})"), "of empty")
        self.assertEqual(came_to(f"(cons {TRAP} (tail (nil int)))"), "by nought")
        self.assertEqual(came_to(f"(cons {OF_EMPTY} (cons {TRAP} (nil int)))"), "of empty")
        self.assertEqual(came_to(f"(call (head (nil (fun int int))) {TRAP})"), "of empty")
        self.assertEqual(came_to(f"(call (fn x int {OF_EMPTY}) {TRAP})"), "by nought")
        self.assertEqual(came_to(f"(let x {TRAP} {OF_EMPTY})"), "by nought")
        self.assertEqual(came_to(f"(let x {OF_EMPTY} 1)"), "of empty")
        self.assertEqual(came_to(f"(if (less 1 {TRAP}) {OF_EMPTY} {OF_EMPTY})"), "by nought")

    def test_values_of_two_parts_keep_their_places(self):
        self.assertEqual(came_to("(pair (minus 5 1) (minus 1 5))"), "(4,-4)")
        self.assertEqual(came_to("(cons (over 9 2) (cons (over 2 9) (nil int)))"), "[4,0]")
        self.assertEqual(came_to("(less (minus 1 2) (minus 2 1))"), "true")

    def test_what_is_not_to_be_reckoned_is_not(self):
        for text, told in [
            (f"(if true 1 {TRAP})", "1"),
            (f"(if false {TRAP} 1)", "1"),
            (f"(and false (less {TRAP} 1))", "false"),
            (f"(or true (less {TRAP} 1))", "true"),
            (f"(and true (less {TRAP} 1))", "by nought"),
            (f"(or false (less {TRAP} 1))", "by nought"),
            (f"(and (less {TRAP} 1) false)", "by nought"),
            (f"(or (less {TRAP} 1) true)", "by nought"),
            (f"(let f (fn x int {TRAP}) 1)", "1"),
            (f"(let f (rec f x int int {TRAP}) 1)", "1"),
            (f"(fn x int {TRAP})", "fn"),
            (f"(let f (fn x int {TRAP}) (call f 1))", "by nought"),
            (f"(plus 1 (if true 2 {TRAP}))", "3"),
            (f"(pair (or true (same 1 {TRAP})) (and false (same 1 {TRAP})))", "(true,false)"),
            (f"(if (and false (same 1 {TRAP})) {TRAP} (if (or true (same 1 {TRAP})) 7 {TRAP}))", "7"),
        ]:
            with self.subTest(text=text):
                self.assertEqual(came_to(text), told)

    def test_what_is_not_to_be_reckoned_makes_nothing(self):
        for text, count in [
            ("(if true 1 (first (pair 1 2)))", 0),
            ("(if false (first (pair 1 2)) 1)", 0),
            ("(and false (first (pair true true)))", 0),
            ("(or true (first (pair true true)))", 0),
            ("(fn x int (pair x x))", 1),
            ("(let f (fn x int (pair x x)) (pair (call f 1) (call f 2)))", 4),
        ]:
            with self.subTest(text=text):
                self.assertEqual(ended(text).made(), count)

    def test_each_part_once(self):
        self.assertEqual(ended("(let x (pair 1 2) (plus (first x) (second x)))").made(), 1)
        self.assertEqual(ended("(call (fn x (pair int int) (plus (first x) (second x))) (pair 1 2))").made(), 2)
        self.assertEqual(ended("(if (empty (cons 1 (nil int))) 1 2)").made(), 1)


class TestNames(unittest.TestCase):
    def test_let(self):
        for text, told in [
            ("(let x 1 x)", "1"),
            ("(let x 1 (let y 2 (pair x y)))", "(1,2)"),
            ("(let x 1 (let x 2 x))", "2"),
            ("(let x 1 (let x (plus x 1) (let x (times x 10) x)))", "20"),
            ("(let x 1 (pair (let x 2 x) x))", "(2,1)"),
            ("(let x 1 (pair x (pair (let x 2 (pair x x)) x)))", "(1,((2,2),1))"),
            ("(plus 100 (let x 1 (plus 10 (let y 2 (plus x y)))))", "113"),
            ("(cons 9 (let x 1 (cons x (let y 2 (cons y (cons x (nil int)))))))", "[9,1,2,1]"),
            ("(let x (let x 1 (plus x 1)) (plus x 1))", "3"),
            ("(let x (let y 1 (let z 2 (plus y z))) (let y 10 (pair x y)))", "(3,10)"),
        ]:
            with self.subTest(text=text):
                self.assertEqual(came_to(text), told)

    def test_functions_keep_what_names_were_where_they_were_made(self):
        for text, told in [
            ("(let x 1 (let f (fn y int (plus x y)) (let x 10 (call f x))))", "11"),
            ("(let x 1 (let f (fn y int x) (let x 2 (plus (call f 0) (call f 0)))))", "2"),
            ("(let f (let x 1 (fn y int (plus x y))) (let x 100 (call f x)))", "101"),
            ("(let f (let x 5 (rec g n int int (if (less n 1) x (call g (minus n 1))))) (let x 9 (call f 3)))", "5"),
            ("(let m (fn x int (fn y int (minus x y))) (let f (call m 10) (let g (call m 20)"
             " (pair (call f 1) (pair (call g 1) (call f 2))))))", "(9,(19,8))"),
            ("(call (fn f (fun int int) (let x 7 (call f x))) (let x 1 (fn y int (minus x y))))", "-6"),
            ("(let a 1 (let b 2 (let c 3 (let f (fn x int (cons c (cons a (nil int)))) (call f 0)))))", "[3,1]"),
            ("(call (call (call (fn a int (fn b int (fn c int (cons a (cons b (cons c (nil int))))))) 1) 2) 3)", "[1,2,3]"),
        ]:
            with self.subTest(text=text):
                self.assertEqual(came_to(text), told)

    def test_a_functions_own_name_is_the_inner_one(self):
        for text, told in [
            ("(let x 1 (plus (call (fn x int (times x 10)) 2) x))", "21"),
            ("(let x 1 (call (fn x int (let x (plus x 1) x)) 5))", "6"),
            ("(call (call (fn x int (fn x int x)) 1) 2)", "2"),
            ("(let f 5 (call (rec f n int int (if (less n 1) 0 (call f (minus n 1)))) f))", "0"),
        ]:
            with self.subTest(text=text):
                self.assertEqual(came_to(text), told)

    def test_rec(self):
        for text, told in [
            (f"(call {SUM} 10)", "55"),
            (f"(let f {SUM} (pair (call f 3) (call f 4)))", "(6,10)"),
            ("(let f (rec f n int int (if (less n 1) 0 (call f (minus n 1)))) (let g f (let f (fn x int 9)"
             " (pair (call g 3) (call f 3)))))", "(0,9)"),
            ("(call (rec f n int (list int) (if (less n 1) (nil int) (let m (call f (minus n 1)) (cons n m)))) 4)",
             "[4,3,2,1]"),
            ("(let k 3 (call (rec f n int int (if (less n k) n (call f (minus n k)))) 11))", "2"),
            ("(call (call (rec f n int (fun int int) (if (less n 1) (fn x int x) (let g (call f (minus n 1))"
             " (fn x int (plus n (call g x)))))) 4) 100)", "110"),
            ("(call (rec f n int int (let g (fn x int (call f x)) (if (less n 1) 7 (call g (minus n 1))))) 60)", "7"),
        ]:
            with self.subTest(text=text):
                self.assertEqual(came_to(text), told)

    def test_rec_with_both_names_the_same(self):
        self.assertEqual(came_to("(call (rec f f int int (plus f 1)) 1)"), "2")
        self.assertEqual(came_to("(plus 0 (call (rec f f int int (plus f 1)) 1))"), "2")
        self.assertEqual(came_to("(call (rec f f (fun int int) int (call f 3)) (fn x int (times x x)))"), "9")
        self.assertEqual(came_to("(let y 5 (call (rec f f int int (plus y f)) 1))"), "6")

    def test_functions_from_lists_and_pairs(self):
        self.assertEqual(came_to("(call (head (cons (fn x int (plus x 1)) (nil (fun int int)))) 1)"), "2")
        self.assertEqual(came_to("(let p (pair (fn x int (plus x 1)) (fn x int (times x 2)))"
                                 " (call (second p) (call (first p) 4)))"), "10")
        self.assertEqual(came_to("(call (if false (fn x int 1) (fn x int 2)) 0)"), "2")


class TestPending(unittest.TestCase):
    def test_with_39_and_with_40_pending(self):
        # The outermost call is in last place, the others aren't: so many are pending at last.
        self.assertEqual(came_to(f"(call {SUM} 39)"), "780")
        self.assertEqual(came_to(f"(call {SUM} 40)"), "820")
        self.assertEqual(came_to(f"(call {SUM} 41)"), "too deep")
        self.assertEqual(came_to(f"(plus 0 (call {SUM} 39))"), "780")
        self.assertEqual(came_to(f"(plus 0 (call {SUM} 40))"), "too deep")

    def test_every_place_that_is_not_the_last(self):
        # The call stands where it isn't in last place; a hundred of them would be pending.
        for place in [
            "(plus (call f (minus n 1)) 1)", "(plus 1 (call f (minus n 1)))", "(if (less (call f (minus n 1)) 1) 1 2)",
            "(let m (call f (minus n 1)) m)", "(call (fn x int x) (call f (minus n 1)))", "(head (cons (call f (minus n 1))"
            " (nil int)))", "(first (pair (call f (minus n 1)) 1))", "(second (pair 1 (call f (minus n 1))))",
            "(let m (let k 1 (call f (minus n 1))) m)", "(plus 0 (if true (call f (minus n 1)) 1))",
            "(call (let m (call f (minus n 1)) (fn x int m)) 1)",
        ]:
            with self.subTest(place=place):
                text = f"(rec f n int int (if (less n 1) 0 {place}))"
                self.assertEqual(came_to(f"(call {text} 100)"), "too deep")
                self.assertNotIn(came_to(f"(call {text} 39)"), ["too deep", "running", "no room"])

    def test_places_of_truths_that_are_not_the_last(self):
        for place in ["(not (call f (minus n 1)))", "(and (call f (minus n 1)) true)", "(or (call f (minus n 1)) true)",
                      "(if (call f (minus n 1)) true false)", "(not (and true (call f (minus n 1))))"]:
            with self.subTest(place=place):
                text = f"(rec f n int bool (if (less n 1) true {place}))"
                self.assertEqual(came_to(f"(call {text} 100)"), "too deep")
                self.assertIn(came_to(f"(call {text} 39)"), ["true", "false"])

    def test_last_places_go_on_in_the_least_room(self):
        for text, told in [
            ("(rec f n int int (if (less n 1) 7 (call f (minus n 1))))", "7"),
            ("(rec f n int int (if (less 0 n) (call f (minus n 1)) 7))", "7"),
            ("(rec f n int int (let m (minus n 1) (if (less m 0) 7 (call f m))))", "7"),
            ("(rec f n int bool (and (less 0 n) (call f (minus n 1))))", "false"),
            ("(rec f n int bool (or (less n 1) (call f (minus n 1))))", "true"),
            ("(rec f n int bool (and true (or false (let m (minus n 1) (if (less m 0) true (and true (call f m)))))))", "true"),
            ("(rec f n int int (if (less n 1) 7 (let l (cons n (cons 1 (nil int))) (call f (minus (head l) 1)))))", "7"),
            ("(rec f n int int (call (fn m int (if (less m 0) 7 (call f m))) (minus n 1)))", "7"),
            ("(rec f n int int (if (less n 1) 7 (call (if true f f) (minus n 1))))", "7"),
        ]:
            with self.subTest(text=text):
                self.assertEqual(came_to(f"(call {text} 2000)", 8), told)
                self.assertEqual(came_to(f"(let x 1 (if true (call {text} 2000) (call {text} 1)))", 8), told)
                self.assertEqual(came_to(f"(first (pair (call {text} 2000) 1))", 8), told)

    def test_two_functions_that_call_each_other_in_last_place(self):
        text = "(rec f p (pair int (fun int bool)) bool (if (less (first p) 1) (call (second p) 1)" \
               " (call (fn q (pair int (fun int bool)) (call f q)) (pair (minus (first p) 1) (second p)))))"
        self.assertEqual(came_to(f"(call {text} (pair 500 (fn x int (same x 1))))", 8), "true")

    def test_pending_calls_end(self):
        # Far more calls than 40, but few at a time.
        fib = "(rec f n int int (if (less n 2) n (plus (call f (minus n 1)) (call f (minus n 2)))))"
        self.assertEqual(came_to(f"(call {fib} 15)"), "610")
        text = "(let f (fn x int (plus x 1)) (call (rec g n int int (if (less n 1) 7 (call g (minus (call f n) 2)))) 300))"
        self.assertEqual(came_to(text), "7")

    def test_function_and_handed_ahead_of_too_deep(self):
        deep = "(call (rec f n int int (if (less 0 n) (plus 1 (call f (minus n 1))) (plus 1 {}))) 40)"
        self.assertEqual(came_to(deep.format("(call f 1)")), "too deep")
        self.assertEqual(came_to(deep.format(f"(call f {TRAP})")), "by nought")
        self.assertEqual(came_to(deep.format(f"(call (head (nil (fun int int))) {TRAP})")), "of empty")
        # What isn't a call, or stands in last place, is reckoned with 40 pending.
        self.assertEqual(came_to(deep.format("(first (pair 2 3))")), "43")
        self.assertEqual(came_to("(call (rec f n int int (if (less 0 n) (plus 1 (call f (minus n 1)))"
                                 " (call (fn x int x) 5))) 40)"), "45")
        # Both are made, and both can be reached then.
        text = deep.format("(call (fn p (pair int int) 1) (pair 1 2))")
        self.assertEqual(came_to(text), "too deep")
        self.assertEqual(ended(text).made(), 3)

    def test_handed_calls_are_pending_with_the_others(self):
        # While what is handed is reckoned the call itself is not pending yet.
        text = "(call (rec f n int int (if (less n 1) 0 (plus 1 (call f (call (fn x int (minus x 1)) n))))) {})"
        self.assertEqual(came_to(text.format(39)), "39")
        self.assertEqual(came_to(text.format(40)), "40")
        self.assertEqual(came_to(text.format(41)), "too deep")


class TestRoom(unittest.TestCase):
    def test_what_is_no_longer_of_use_costs_no_room(self):
        for text, told in [
            (f"(call {LOOP} (pair 1000 0))", "500500"),
            (f"(plus 0 (call {LOOP} (pair 1000 0)))", "500500"),
            (f"(let x {WASTE} (let y {WASTE} (let z {WASTE} (plus {WASTE} (plus {WASTE} {WASTE})))))", "0"),
            (f"(call (rec f n int int (if (less n 1) 7 (call f (minus n (plus 1 {WASTE}))))) 500)", "7"),
            ("(call (rec f g (fun int int) int (if (less 500 (call g 0)) 1 (let n (call g 1)"
             " (call f (fn x int (plus x n)))))) (fn x int x))", "1"),
            ("(call (rec f l (list int) int (if (less 500 (head l)) (head l) (call f (cons (plus (head l) 1)"
             " (cons 0 (nil int)))))) (cons 0 (nil int)))", "501"),
            ("(call (rec f n int int (if (less n 1) 7 (let p (pair n n) (let q (pair p p) (call f (minus (first (first q))"
             " 1)))))) 500)", "7"),
        ]:
            for room in [8, 9, 400]:
                with self.subTest(text=text, room=room):
                    self.assertEqual(came_to(text, room), told)

    def test_what_needs_at_most_half_the_room_is_done(self):
        # Of BUILD at last the function, two pairs and all cells are reached at once.
        for room in [8, 9, 10, 11, 50, 399, 400]:
            for count in range(max(0, room // 2 - 5), room // 2 - 2):
                with self.subTest(room=room, count=count):
                    machine = ended(f"(call {BUILD} (pair {count} (nil int)))", room)
                    self.assertEqual(machine.run(0), "done")
                    self.assertEqual(machine.collect(), count)

    def test_what_needs_more_than_the_room_comes_to_no_room(self):
        for room in [8, 9, 50, 400]:
            for count in [room - 2, room - 1, room, room + 1, 1000]:
                with self.subTest(room=room, count=count):
                    machine = ended(f"(call {BUILD} (pair {count} (nil int)))", room)
                    self.assertEqual(machine.run(0), "no room")
                    made = machine.made()
                    for _ in range(3):
                        # With the one that had no room they are more than a half of it.
                        self.assertGreater(2 * (machine.collect() + 1), room)
                        self.assertLessEqual(machine.used(), room)
                        self.assertEqual(machine.run(100), "no room")
                    self.assertEqual(machine.made(), made)

    def test_each_sort_of_thing_needs_room(self):
        for lay in [
            lambda text: f"(let l (cons 1 (nil int)) {text})",
            lambda text: f"(let l (pair 1 2) {text})",
            lambda text: f"(let l (fn x int x) {text})",
            lambda text: f"(let l (rec f x int int x) {text})",
        ]:
            for count, told in [(0, "1"), (4, "1"), (9, "no room"), (12, "no room")]:
                text = "1"
                for _ in range(count):
                    text = lay(text)
                with self.subTest(text=text):
                    self.assertEqual(came_to(text, 8), told)

    def test_room_needed_by_pending_calls(self):
        # The function and the cells need room, the pending calls themselves need none.
        self.assertEqual(came_to(f"(call {UPTO} 3)", 8), "[3,2,1]")
        self.assertEqual(came_to(f"(call {UPTO} 8)", 8), "no room")
        self.assertEqual(came_to(f"(call {UPTO} 40)", 400).count(","), 39)

    def test_no_room_only_when_something_is_made(self):
        # The room is as full as it may be, yet nothing more is made.
        text = f"(let l (call {BUILD} (pair 4 (nil int))) (call (rec f n int int (if (less n 1) (head l)" \
               " (call f (minus n 1)))) 100))"
        self.assertEqual(came_to(text, 16), "1")

    def test_a_trap_ahead_of_no_room(self):
        fill = "(cons 1 (cons 2 (cons 3 (cons 4 (cons 5 (cons 6 (cons 7 (cons 8 (cons {} (nil int))))))))))"
        self.assertEqual(came_to(fill.format(9), 8), "no room")
        self.assertEqual(came_to(fill.format(TRAP), 8), "by nought")

    def test_deep_parts_run_to_their_end(self):
        for part, kind in deep_parts(70):
            machine = Machine(compiled(part), 400)
            machine.run(8 * 70 * 4 + 8)
            with self.subTest(part=str(part)[:200]):
                self.assertNotIn(told_by(machine), ["running", "no room"])


if __name__ == "__main__":
    unittest.main()
