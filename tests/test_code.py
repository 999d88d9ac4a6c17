"""What the code must be able to do, [30] to [33]: it is run here by a small machine of the tests' own."""

import unittest

from plainspeak.compiling import compiled
from plainspeak.heap import EMPTY, Heap
from plainspeak.reading import read
from plainspeak.words import values_behind
from samples import FIT, deep_parts

ROUND = 2 ** 64


def whole(number):
    return (number + ROUND // 2) % ROUND - ROUND // 2


def over(one, other):
    return abs(one) // abs(other) * (1 if (one < 0) == (other < 0) else -1)


RECKONED = {
    "plus": lambda one, other: whole(one + other),
    "minus": lambda one, other: whole(one - other),
    "times": lambda one, other: whole(one * other),
    "over": lambda one, other: whole(over(one, other)),
    "rest": lambda one, other: one - other * over(one, other),
    "less": lambda one, other: one < other,
    "same": lambda one, other: one == other,
}


class Runner:
    """Runs code to its end; where it moves, everything is moved ahead of each step."""

    def __init__(self, part, room=400, moves=False):
        self.code = compiled(part)
        self.heap = Heap(room)
        self.moves = moves
        self.stack, self.base, self.place, self.pending = [], 0, 0, []
        self.stands, self.steps = "running", 0

    def run(self, most=100000):
        while self.stands == "running" and self.steps < most:
            if self.moves:
                self.stack = self.heap.move_together(self.stack)
            word, *told = self.code[self.place]
            self.place += 1
            self.steps += 1
            getattr(self, "do_" + word.replace(" ", "_"), lambda *told: self.reckon(word))(*told)
        return self.shown(self.stack[0]) if self.stands == "done" else self.stands

    def reckon(self, word):
        other, one = self.stack.pop(), self.stack.pop()
        if word in ["over", "rest"] and other == 0:
            self.stands = "by nought"
        else:
            self.stack.append(RECKONED[word](one, other))

    def do_put(self, value):
        self.stack.append(value)

    def do_nil(self):
        self.stack.append(EMPTY)

    def do_get(self, slot):
        self.stack.append(self.stack[self.base + slot])

    def do_not(self):
        self.stack.append(not self.stack.pop())

    def do_empty(self):
        self.stack.append(self.stack.pop() is EMPTY)

    def make(self, sort, held, taken):
        if self.heap.is_full():
            self.stack = self.heap.move_together(self.stack)
        if self.heap.is_full():
            self.stands = "no room"
            return
        reference = self.heap.make(sort, held())
        del self.stack[len(self.stack) - taken:]
        self.stack.append(reference)

    def do_cons(self):
        self.make("cell", lambda: self.stack[-2:], 2)

    def do_pair(self):
        self.make("pair", lambda: self.stack[-2:], 2)

    def do_fn(self, slots, size, knows_itself=False):
        begin = self.place
        self.make("function", lambda: [begin, knows_itself] + [self.stack[self.base + slot] for slot in slots], 0)
        self.place += size

    def do_rec(self, slots, size):
        self.do_fn(slots, size, True)

    def held(self, number):
        reference = self.stack.pop()
        if reference is EMPTY:
            self.stands = "of empty"
        else:
            self.stack.append(self.heap.held_by(reference)[number])

    def do_head(self):
        self.held(0)

    def do_tail(self):
        self.held(1)

    do_first, do_second = do_head, do_tail

    def do_unless(self, size):
        if not self.stack.pop():
            self.place += size

    def do_skip(self, size):
        self.place += size

    def do_slide(self):
        self.stack.pop(-2)

    def do_call(self):
        if len(self.pending) == 40:
            self.stands = "too deep"
            return
        self.pending.append((self.place, self.base))
        self.base = len(self.stack) - 2
        self.do_last_call()

    def do_last_call(self):
        handed, function = self.stack.pop(), self.stack.pop()
        self.place, knows_itself, *kept = self.heap.held_by(function)
        self.stack[self.base:] = kept + [function] * knows_itself + [handed]

    def do_tell(self):
        self.stack[self.base:] = [self.stack[-1]]
        if self.pending:
            self.place, self.base = self.pending.pop()
        else:
            self.stands = "done"

    def shown(self, value):
        if value is EMPTY or isinstance(value, tuple) and self.heap.sort_of(value) == "cell":
            found = []
            while value is not EMPTY:
                head, value = self.heap.held_by(value)
                found.append(self.shown(head))
            return "[" + ",".join(found) + "]"
        if not isinstance(value, tuple):
            return str(value).lower()
        if self.heap.sort_of(value) == "function":
            return "fn"
        return "(" + ",".join(self.shown(one) for one in self.heap.held_by(value)) + ")"


SUM = "(rec s n int int (if (less n 1) 0 (plus n (call s (minus n 1)))))"
LOOP = "(rec s p (pair int int) int (if (less (first p) 1) (second p)" \
       " (call s (pair (minus (first p) 1) (plus (second p) (first p))))))"
UPTO = "(rec u n int (list int) (if (less n 1) (nil int) (cons n (call u (minus n 1)))))"
TRAP = "(over 1 0)"

# Texts, and what they come to.
RUNS = [
    ("-5", "-5"), ("true", "true"), ("(nil int)", "[]"), ("(fn x int x)", "fn"), ("(rec f x int int x)", "fn"),
    ("(plus 2 3)", "5"), ("(minus 2 3)", "-1"), ("(times -2 3)", "-6"), ("(less 1 2)", "true"), ("(less 2 2)", "false"),
    ("(same 2 2)", "true"), ("(same 2 3)", "false"), ("(not true)", "false"),
    ("(over -7 2)", "-3"), ("(rest -7 2)", "-1"), ("(over 7 -2)", "-3"), ("(rest 7 -2)", "1"),
    ("(plus 9223372036854775807 1)", "-9223372036854775808"),
    ("(over -9223372036854775808 -1)", "-9223372036854775808"), ("(rest -9223372036854775808 -1)", "0"),
    ("(over 1 0)", "by nought"), ("(rest 1 0)", "by nought"),
    ("(head (nil int))", "of empty"), ("(tail (nil int))", "of empty"),
    ("(cons 1 (cons 2 (nil int)))", "[1,2]"), ("(head (cons 1 (cons 2 (nil int))))", "1"),
    ("(tail (cons 1 (cons 2 (nil int))))", "[2]"), ("(empty (nil int))", "true"), ("(empty (cons 1 (nil int)))", "false"),
    ("(pair 1 (pair true (nil int)))", "(1,(true,[]))"), ("(first (pair 1 2))", "1"), ("(second (pair 1 2))", "2"),
    # what is not reckoned
    (f"(if true 1 {TRAP})", "1"), (f"(if false {TRAP} 2)", "2"), (f"(plus 1 (if true 1 {TRAP}))", "2"),
    (f"(plus (if false {TRAP} 2) 1)", "3"), (f"(and false (same 1 {TRAP}))", "false"), ("(and true false)", "false"),
    ("(and true true)", "true"), (f"(or true (same 1 {TRAP}))", "true"), ("(or false true)", "true"),
    ("(or false false)", "false"), (f"(not (and false (same 1 {TRAP})))", "true"),
    (f"(not (or true (same 1 {TRAP})))", "false"), ("(not (and true true))", "false"), ("(not (or false false))", "true"),
    (f"(let f (fn x int {TRAP}) 1)", "1"),
    # from the left
    (f"(plus (head (nil int)) {TRAP})", "of empty"), (f"(plus {TRAP} (head (nil int)))", "by nought"),
    (f"(call (head (nil (fun int int))) {TRAP})", "of empty"),
    (f"(let x {TRAP} (head (nil int)))", "by nought"), (f"(call (fn x int (head (nil int))) {TRAP})", "by nought"),
    ("(minus (minus 10 3) (minus 5 1))", "3"),
    # names
    ("(let x 1 (let x 2 x))", "2"), ("(let x 1 (plus (let x 2 x) x))", "3"), ("(let x 1 (pair x (let x 2 x)))", "(1,2)"),
    ("(minus 10 (let x 3 (minus x (let y 2 (minus x y)))))", "8"),
    ("(let x 1 (let f (fn y int (plus x y)) (let x 10 (call f x))))", "11"),
    ("(let x 1 (let f (fn x int (plus x x)) (plus (call f 5) x)))", "11"),
    ("(call (call (fn x int (fn y int (minus x y))) 10) 3)", "7"),
    ("(let a 1 (let b 2 (call (fn x int (call (fn y int (pair (pair a b) (pair x y))) 4)) 3)))", "((1,2),(3,4))"),
    ("(let f (fn x int (plus x 1)) (let g (fn x int (call f (call f x))) (call g 1)))", "3"),
    ("(call (rec f f int int (plus f 1)) 1)", "2"),
    ("(let y 5 (call (rec f x int int (if (less x 1) y (call f (minus x 1)))) 3))", "5"),
    ("(let f (rec f x int int (if (less x 1) 0 (call f (minus x 1)))) (let g f (let f 1 (call g f))))", "0"),
    # calls in last place and others
    (f"(call {SUM} 40)", "820"), (f"(call {SUM} 41)", "too deep"), (f"(plus 0 (call {SUM} 39))", "780"),
    (f"(plus 0 (call {SUM} 40))", "too deep"), (f"(call {LOOP} (pair 500 0))", "125250"),
    (f"(plus 0 (call {LOOP} (pair 500 0)))", "125250"),
    (f"(call {UPTO} 9)", "[9,8,7,6,5,4,3,2,1]"),
    ("(call (rec f n int bool (or (less n 1) (call f (minus n 1)))) 200)", "true"),
    ("(call (rec f n int bool (and (less 0 n) (call f (minus n 1)))) 200)", "false"),
    ("(call (rec f n int int (let m (minus n 1) (if (less m 0) m (call f m)))) 200)", "-1"),
    ("(call (rec f n int bool (not (if (less n 1) true (call f (minus n 1))))) 200)", "too deep"),
    ("(call (rec f n int int (call f (call f n))) 1)", "too deep"),
    ("(call (rec f n int int (plus (call f (head (nil int))) 0)) 1)", "of empty"),
    ("(call (rec f n int int (if (less n 1) (head (nil int)) (plus (call f (minus n 1)) 0))) 40)", "of empty"),
    ("(call (rec f n int int (plus (call f (if (less n 1) (head (nil int)) (minus n 1))) 0)) 40)", "of empty"),
    ("(call (rec f n int int (plus (call f (if (less n 1) (head (nil int)) (minus n 1))) 0)) 41)", "too deep"),
]


class TestRuns(unittest.TestCase):
    def test_what_they_come_to(self):
        for text, told in RUNS:
            for moves in [False, True]:
                with self.subTest(text=text, moves=moves):
                    self.assertEqual(Runner(read(text), moves=moves).run(), told)

    def test_parts_that_fit_run_to_an_end(self):
        for text, kind in FIT:
            with self.subTest(text=text):
                self.assertNotEqual(Runner(read(text)).run(), "running")

    def test_deep_parts_run_to_an_end(self):
        for part, kind in deep_parts(70):
            with self.subTest(part=str(part)[:200]):
                shown = Runner(part, moves=True).run()
                self.assertEqual(shown, Runner(part).run())
                self.assertNotEqual(shown, "running")


class TestRoom(unittest.TestCase):
    def things(self, text, room=8):
        """How many things the value of a text is made of, each once."""
        runner = Runner(read(text), room)
        runner.run()
        self.assertEqual(runner.stands, "done")
        runner.heap.move_together(runner.stack)
        return runner.heap.used()

    def test_what_a_value_is_made_of(self):
        for text, count in [
            ("1", 0),
            ("(nil int)", 0),
            ("(cons 1 (cons 2 (nil int)))", 2),
            ("(tail (cons 1 (cons 2 (nil int))))", 1),
            ("(let x (cons 1 (nil int)) (pair x x))", 2),
            ("(let x (cons 1 (nil int)) (fn y int y))", 1),
            ("(let x (cons 1 (nil int)) (fn y int x))", 2),
            ("(let x (cons 1 (nil int)) (fn x int x))", 1),
            ("(let x (cons 1 (nil int)) (fn y int (fn z int x)))", 2),
            ("(let x (cons 1 (nil int)) (call (fn y int (fn z int x)) 1))", 2),
            ("(let x (cons 1 (nil int)) (fn y int (let x 1 x)))", 1),
            ("(let x (cons 1 (nil int)) (rec f y int int (call f y)))", 1),
            ("(let x (cons 1 (nil int)) (rec f y int int (call f (head x))))", 2),
            ("(let x (pair 1 2) (first (pair x x)))", 1),
        ]:
            with self.subTest(text=text):
                self.assertEqual(self.things(text), count)

    def test_what_is_no_longer_of_use_costs_no_room(self):
        self.assertEqual(Runner(read(f"(call {LOOP} (pair 1000 0))"), 4).run(), "500500")
        text = "(call (rec f n int int (if (less n 1) 0 (let l (cons n (nil int)) (call f (minus (head l) 1))))) 1000)"
        self.assertEqual(Runner(read(text), 3).run(), "0")
        text = "(call (rec f g (fun int int) int (if (less 1000 (call g 0)) 1 (let n (call g 1) (call f (fn x int" \
               " (plus x n)))))) (fn x int x))"
        self.assertEqual(Runner(read(text), 4).run(), "1")

    def test_a_function_called_in_last_place_costs_no_room(self):
        text = "(call (fn x int (pair x (pair x x))) 1)"
        self.assertEqual(Runner(read(text), 2).run(), "(1,(1,1))")
        self.assertEqual(Runner(read(text), 1).run(), "no room")
        text = "(call (rec f f int (pair int (pair int int)) (pair f (pair f f))) 1)"
        self.assertEqual(Runner(read(text), 2).run(), "(1,(1,1))")

    def test_what_is_of_use_does(self):
        text = f"(call {UPTO} 9)"
        self.assertEqual(Runner(read(text), 10).run(), "[9,8,7,6,5,4,3,2,1]")
        self.assertEqual(Runner(read(text), 9).run(), "no room")


def parts_in(part):
    return 1 + sum(parts_in(inner) for inner in values_behind(part, "part"))


class TestSteps(unittest.TestCase):
    def test_few_steps_a_part(self):
        for text, told in RUNS:
            # Without these words each part is reckoned once, or not at all behind a trap.
            if not any(word in text for word in ["(if", "(and", "(or", "(fn", "(rec", "over", "rest", "head", "tail"]):
                runner = Runner(read(text))
                runner.run()
                with self.subTest(text=text):
                    self.assertLessEqual(runner.steps, 8 * parts_in(read(text)) + 8)

    def test_few_steps_a_call(self):
        # Each round of the loop reckons 16 parts.
        runner = Runner(read(f"(call {LOOP} (pair 500 0))"))
        runner.run()
        self.assertLessEqual(runner.steps, 8 * 16 * 500)

    def test_a_function_that_keeps_many_names(self):
        part = ("fn", "z", "int", ("num", 0))
        for number in range(30):
            part = ("fn", "z", "int", ("let", "z", ("name", f"n{number}"), part))
        for number in range(30):
            part = ("let", f"n{number}", ("num", number), part)
        runner = Runner(part)
        self.assertEqual(runner.run(), "fn")
        self.assertLessEqual(runner.steps, 8 * 61 + 8)


if __name__ == "__main__":
    unittest.main()
