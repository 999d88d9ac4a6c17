"""[40] and [41]: making a machine, its steps, and what is moved, made and used."""

import copy
import unittest

from plainspeak.compiling import compiled
from plainspeak.errors import NoRoom, NotDone
from plainspeak.machine import Machine
from plainspeak.reading import read
from samples import BUILD, LOOP, NUM, RUNS, SPIN, SUM, TRAP, UPTO, doubled, ended, machine_of, told_by

OF_EMPTY = "(head (nil int))"
TRAPS = [(TRAP, "by nought"), (OF_EMPTY, "of empty"), (f"(call {SUM} 50)", "too deep"),
         (f"(call {BUILD} (pair 500 (nil int)))", "no room")]

# Texts of programs that come to a trap, or go on for ever, and how many things can be reached then.
REACHED = [
    # a let's second part: the name is in scope, whether it is asked for or not, also where it is bound anew
    (f"(let x (cons 1 (cons 2 (nil int))) {TRAP})", 2),
    (f"(let x (cons 1 (cons 2 (nil int))) (plus {TRAP} (head x)))", 2),
    (f"(let x (pair 1 2) (let y (pair 3 4) (plus 1 {TRAP})))", 2),
    (f"(let x (pair 1 2) (let x 3 {TRAP}))", 1),
    (f"(let x (pair 1 2) (let x (pair x x) {TRAP}))", 2),
    (f"(let x (pair 1 2) (let x (first x) (plus 1 {TRAP})))", 1),
    # a let's first part, and a let that is ended
    (f"(let x (plus (first (pair 1 2)) {TRAP}) x)", 0),
    (f"(let x (head (cons {TRAP} (nil int))) x)", 0),
    (f"(plus (let x (pair 1 2) (first x)) {TRAP})", 0),
    (f"(pair (let x (pair 1 2) (first x)) {TRAP})", 0),
    (f"(pair (let x (pair 1 2) (pair x x)) {TRAP})", 2),
    (f"(let y (let x (pair 1 2) 5) {TRAP})", 0),
    # between the parts of a cons, a pair, a call
    (f"(cons (pair 1 2) (cons (pair 3 4) (cons (pair {TRAP} 5) (nil (pair int int)))))", 2),
    ("(cons (pair 1 2) (tail (nil (pair int int))))", 1),
    (f"(pair (cons 1 (nil int)) (pair (cons 2 (nil int)) {TRAP}))", 2),
    (f"(call (fn x int x) {TRAP})", 1),
    (f"(call (let y (pair 1 2) (fn x int (first y))) {TRAP})", 2),
    (f"(call (let y (pair 1 2) (fn x int x)) {TRAP})", 1),
    (f"(plus (first (pair 1 2)) {TRAP})", 0),
    # what is chosen by
    (f"(if (empty (cons 1 (nil int))) 1 {TRAP})", 0),
    (f"(let x (pair 1 2) (if (same {TRAP} 1) (first x) 1))", 1),
    (f"(and (first (pair true 1)) (same 1 {TRAP}))", 0),
    (f"(or (first (pair false 1)) (same 1 {TRAP}))", 0),
    # a call that is pending: its names in scope, the values so far, its function and what that is handed
    (f"(let x (pair 1 2) (plus (call (fn y int {TRAP}) 1) (first x)))", 2),
    (f"(let x (pair 1 2) (let f (fn y int {TRAP}) (plus (call f 1) (first x))))", 2),
    (f"(pair (cons 1 (nil int)) (call (fn y int {TRAP}) 1))", 2),
    (f"(plus 1 (call (fn y int {TRAP}) 1))", 1),
    (f"(plus 1 (call (fn y (pair int int) {TRAP}) (pair 1 2)))", 2),
    (f"(plus 1 (call (fn y (pair int int) (call (fn z int {TRAP}) (first y))) (pair 1 2)))", 2),
    (f"(plus 1 (call (let x (pair 1 2) (fn y int (plus (first x) {TRAP}))) 1))", 2),
    (f"(plus 1 (call (rec f y int int {TRAP}) 1))", 1),
    (f"(plus 1 (call (rec f f int int {TRAP}) 1))", 1),
    (f"(plus 1 (call (fn x int (plus 1 (call (fn y int (plus y {TRAP})) x))) 1))", 2),
    (f"(plus (call (fn y (pair int int) (first y)) (pair 1 2)) {TRAP})", 0),
    (f"(pair (call (fn y (pair int int) (pair y y)) (pair 1 2)) {TRAP})", 2),
    # a call in last place: the part that made it is ended
    (f"(let x (pair 1 2) (call (fn y int {TRAP}) (first x)))", 0),
    (f"(let x (pair 1 2) (call (fn y int (plus (first x) {TRAP})) 1))", 1),
    (f"(call (fn y (pair int int) {TRAP}) (pair 1 2))", 1),
    (f"(call (rec f y int int {TRAP}) 1)", 1),
    (f"(call (rec f f int int {TRAP}) 1)", 0),
    (f"(let x (pair 1 2) (if true (call (fn y int {TRAP}) (first x)) 1))", 0),
    (f"(let x (pair 1 2) (and true (call (fn y int (same 1 {TRAP})) (first x))))", 0),
    (f"(let x (pair 1 2) (or false (call (fn y int (same 1 {TRAP})) (first x))))", 0),
    # what functions keep: the names of outside in them alone
    (f"(let f (let x (pair 1 2) (let y (pair 3 4) (fn z int (first x)))) {TRAP})", 2),
    (f"(let f (let x (pair 1 2) (fn x int x)) {TRAP})", 1),
    (f"(let f (let x (pair 1 2) (fn y int (let x 1 x))) {TRAP})", 1),
    (f"(let f (let x (pair 1 2) (fn y int (let x (first x) x))) {TRAP})", 2),
    (f"(let f (let x (pair 1 2) (fn y int (fn z int (first x)))) {TRAP})", 2),
    (f"(let g (call (let x (pair 1 2) (fn y int (fn z int (first x)))) 1) {TRAP})", 2),
    (f"(let g (call (rec f y int (fun int int) (fn z int (first (pair z f)))) 1) {TRAP})", 2),
    # what is held twice counts once
    (f"(let x (pair 1 2) (let y (pair x x) (let z (cons x (cons x (nil (pair int int)))) {TRAP})))", 4),
    # going on for ever
    (SPIN, 1),
    (f"(let x (pair 1 2) {SPIN})", 1),
    (f"(let x (pair 1 2) (plus 1 {SPIN}))", 2),
    (f"(plus (first (pair 1 2)) {SPIN})", 1),
    (f"(pair (cons 1 (nil int)) {SPIN})", 2),
    (f"(cons 1 (cons {SPIN} (nil int)))", 1),
    (f"(cons (pair 1 2) (cons (pair 3 {SPIN}) (nil (pair int int))))", 2),
    (f"(let x (cons 1 (nil int)) (call (fn y int {SPIN}) 1))", 1),
    (f"(let x (cons 1 (nil int)) (call (fn y int (plus (head x) {SPIN})) 1))", 2),
]

# Texts of programs, and how many things their values are made of.
VALUES = [
    ("1", 0), ("true", 0), ("(nil int)", 0), ("(pair 1 2)", 1), ("(cons 1 (cons 2 (nil int)))", 2),
    ("(tail (cons 1 (cons 2 (nil int))))", 1), ("(head (cons 1 (nil int)))", 0), ("(fn x int x)", 1),
    ("(let x (cons 1 (nil int)) (pair x x))", 2), ("(let x (pair 1 2) (first (pair x x)))", 1),
    ("(let x (pair 1 2) (cons x (cons x (nil (pair int int)))))", 3),
    ("(let x (cons 1 (nil int)) (pair (cons 2 x) (cons 3 x)))", 4),
    ("(let x (pair 1 2) (pair (fn y int (first x)) (fn y int (second x))))", 4),
    ("(let x (pair 1 2) (fn y int y))", 1), ("(let x (pair 1 2) (fn y int (first x)))", 2),
    ("(let x (pair 1 2) (rec f y int int (call f (first x))))", 2),
    ("(let f (rec f y int int (call f y)) (pair f f))", 2),
    ("(call (rec f f int (pair int int) (pair f f)) 1)", 1),
    (f"(call {UPTO} 20)", 20), (f"(call {BUILD} (pair 150 (nil int)))", 150), (f"(call {LOOP} (pair 50 0))", 0),
]


class TestMaking(unittest.TestCase):
    def test_rooms(self):
        code = compiled(NUM)
        for room in [8, 9, 100, 399, 400]:
            self.assertEqual(Machine(code, room).run(16), "done")
        for room in [7, 401, 0, 1, -1, -8, 1000, 10 ** 20, -(10 ** 20)]:
            with self.subTest(room=room):
                self.assertRaises(NoRoom, Machine, code, room)
        self.assertEqual(code, compiled(NUM))

    def test_a_new_machine(self):
        machine = machine_of("(pair 1 2)")
        self.assertEqual([machine.made(), machine.used(), machine.collect(), machine.run(0)], [0, 0, 0, "running"])

    def test_the_code_is_copied(self):
        for text, told in RUNS:
            code = compiled(read(text))
            machine = Machine(code, 400)
            code.clear()
            machine.run(10)
            code.extend(compiled(read("(over 1 0)")))
            machine.run(100000)
            with self.subTest(text=text):
                self.assertEqual(told_by(machine), told)

    def test_the_code_is_not_changed(self):
        for text, told in RUNS:
            code = compiled(read(text))
            before = copy.deepcopy(code)
            machine = Machine(code, 400)
            machine.run(100000)
            machine.collect()
            told_by(machine)
            self.assertEqual(code, before)

    def test_two_of_one_code(self):
        code = compiled(read(f"(call {BUILD} (pair 20 (nil int)))"))
        one, other, small = Machine(code, 400), Machine(code, 400), Machine(code, 8)
        one.run(100)
        self.assertEqual([other.made(), other.used(), other.run(0)], [0, 0, "running"])
        while other.run(1) == "running":
            one.run(1)
            small.run(3)
        one.run(100000)
        self.assertEqual(one.shown(), other.shown())
        self.assertEqual(small.run(0), "no room")
        one.collect()
        self.assertEqual(other.shown(), one.shown())


class TestSteps(unittest.TestCase):
    def test_no_steps(self):
        machine = machine_of("(pair 1 2)")
        for _ in range(100):
            self.assertEqual(machine.run(0), "running")
        self.assertEqual(machine.made(), 0)
        self.assertRaises(NotDone, machine.shown)

    def test_as_many_at_once_as_one_by_one(self):
        for text, told in RUNS:
            one_by_one = machine_of(text)
            steps = 0
            while one_by_one.run(1) == "running":
                steps += 1
            at_once = machine_of(text)
            with self.subTest(text=text):
                # One step fewer isn't enough, and just as many are.
                self.assertEqual(at_once.run(steps), "running")
                self.assertNotEqual(at_once.run(1), "running")
                self.assertEqual(told_by(at_once), told)
                self.assertEqual(machine_of(text).run(steps + 1), at_once.run(0))

    def test_many_more_than_needed(self):
        self.assertEqual(machine_of("1").run(10 ** 30), "done")
        self.assertEqual(machine_of(TRAP).run(10 ** 30), "by nought")

    def test_goes_on_for_ever(self):
        for text in [SPIN, f"(plus 1 {SPIN})", f"(let x (pair 1 2) (plus (first x) {SPIN}))"]:
            self.assertEqual(machine_of(text, 8).run(30000), "running")

    def test_no_more_steps_than_asked_for(self):
        # Each part makes one thing, and no step reckons more than one part.
        text = "(nil int)"
        for number in range(20):
            text = f"(cons {number} {text})"
        machine = machine_of(text)
        for steps in range(100):
            made = machine.made()
            machine.run(1)
            self.assertLessEqual(machine.made() - made, 1)

    def test_done_stays_done(self):
        for text, told in RUNS:
            machine = ended(text)
            stands, made = machine.run(0), machine.made()
            with self.subTest(text=text):
                for steps in [0, 1, 5, 1000]:
                    self.assertEqual(machine.run(steps), stands)
                    machine.collect()
                self.assertEqual(machine.made(), made)
                self.assertEqual(told_by(machine), told)

    def test_traps_stay(self):
        for text, trap in TRAPS:
            machine = ended(text)
            with self.subTest(text=text):
                made, kept = machine.made(), machine.collect()
                for steps in [0, 1, 5, 1000]:
                    self.assertEqual(machine.run(steps), trap)
                    self.assertEqual([machine.made(), machine.used(), machine.collect()], [made, kept, kept])

    def test_few_steps(self):
        # So many parts are reckoned: the bound on steps is eight for each, and eight.
        for text, parts in [
            ("1", 1), ("(nil int)", 1), ("(plus 1 2)", 3), ("(let x 1 x)", 3), ("(if true 1 2)", 3),
            ("(and false true)", 2), ("(call (fn x int x) 1)", 4), ("(first (pair 1 2))", 4), ("(fn x int (plus x 1))", 1),
            ("(plus 1 (call (fn x int (let y x (plus x y))) 1))", 10),
        ]:
            with self.subTest(text=text):
                self.assertEqual(machine_of(text).run(8 * parts + 8), "done")


class TestCollect(unittest.TestCase):
    def test_just_what_can_be_reached(self):
        for text, count in REACHED:
            with self.subTest(text=text):
                machine = machine_of(text)
                machine.run(2000)
                self.assertGreaterEqual(machine.used(), count)
                self.assertEqual([machine.collect(), machine.used(), machine.collect(), machine.used()], [count] * 4)
                machine.run(1)
                self.assertEqual(machine.collect(), count)

    def test_what_a_value_is_made_of(self):
        for text, count in VALUES:
            machine = ended(text)
            with self.subTest(text=text):
                self.assertEqual([machine.collect(), machine.used(), machine.collect()], [count] * 3)
        machine = Machine(compiled(doubled(60, NUM)), 400)
        machine.run(2000)
        self.assertEqual([machine.made(), machine.collect()], [60, 60])

    def test_behind_each_step(self):
        for text, told in RUNS:
            for room in [20, 400]:
                at_once, moved = ended(text, room), machine_of(text, room)
                while moved.run(1) == "running":
                    self.assertEqual(moved.collect(), moved.used())
                    self.assertEqual(moved.collect(), moved.used())
                with self.subTest(text=text, room=room):
                    self.assertEqual(told_by(moved), told_by(at_once))
                    self.assertEqual(moved.made(), at_once.made())
                    self.assertEqual(moved.collect(), at_once.collect())

    def test_it_tells_nothing_but_used_anew(self):
        machine = ended(f"(call {LOOP} (pair 20 0))")
        before = [machine.run(0), machine.made(), machine.shown()]
        self.assertGreater(machine.used(), 0)
        self.assertEqual(machine.collect(), 0)
        self.assertEqual([machine.run(0), machine.made(), machine.shown()], before)
        self.assertEqual(machine.used(), 0)

    def test_of_a_running_machine_it_changes_nothing_that_comes(self):
        # Asked once, behind so many steps.
        text = f"(let l (call {BUILD} (pair 5 (nil int))) (pair (call {UPTO} 3) (tail l)))"
        steps = 0
        whole = machine_of(text, 20)
        while whole.run(1) == "running":
            steps += 1
        for asked in range(steps + 1):
            machine = machine_of(text, 20)
            machine.run(asked)
            machine.collect()
            self.assertEqual(machine.run(steps - asked), "running")
            self.assertEqual(machine.run(1), "done")
            self.assertEqual([machine.shown(), machine.made()], [whole.shown(), whole.made()])


class TestMadeAndUsed(unittest.TestCase):
    def test_made(self):
        for text, count in [
            ("1", 0), ("(pair 1 2)", 1), ("(cons 1 (cons 2 (nil int)))", 2), ("(fn x int (pair x x))", 1),
            ("(rec f x int int x)", 1), ("(call (fn x int (pair x x)) 1)", 2), ("(let x (pair 1 2) (pair x x))", 2),
            ("(first (pair 1 2))", 1), (f"(call {LOOP} (pair 100 0))", 102), (f"(call {UPTO} 10)", 11),
            (f"(pair 1 {TRAP})", 0), (f"(pair (pair 1 2) {TRAP})", 1),
        ]:
            for room in [20, 400]:
                with self.subTest(text=text):
                    self.assertEqual(ended(text, room).made(), count)

    def test_made_grows_by_one_at_most(self):
        machine = machine_of(f"(call {UPTO} 10)", 20)
        made = 0
        while machine.run(1) == "running":
            self.assertIn(machine.made() - made, [0, 1])
            made = machine.made()
            machine.collect()
            self.assertEqual(machine.made(), made)

    def test_used_is_never_more_than_the_room_nor_than_made(self):
        for room in [8, 9, 50, 400]:
            for text in [f"(call {LOOP} (pair 300 0))", f"(call {BUILD} (pair 60 (nil int)))", f"(call {UPTO} 30)"]:
                machine = machine_of(text, room)
                while machine.run(1) == "running":
                    self.assertLessEqual(machine.used(), min(room, machine.made()))
                self.assertLessEqual(machine.used(), min(room, machine.made()))

    def test_whole_numbers(self):
        machine = ended("(pair 1 2)")
        for told in [machine.made(), machine.used(), machine.collect()]:
            self.assertIs(type(told), int)
        self.assertIs(type(machine.run(1)), str)
        self.assertIs(type(machine.shown()), str)


if __name__ == "__main__":
    unittest.main()
