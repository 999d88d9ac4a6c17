"""What the code must be able to do, [30] to [33]: it is run here by a small machine of the tests' own."""

import unittest

from plainspeak.compiling import compiled
from plainspeak.heap import EMPTY, Heap
from plainspeak.reading import read
from plainspeak.words import values_behind
from samples import FIT, LOOP, RUNS, SUMS, UPTO, deep_parts


class Runner:
    """Runs code to its end; where it moves, everything is moved ahead of each step."""

    def __init__(self, part, room=400, moves=False):
        self.code = compiled(part)
        self.heap = Heap(room)
        self.moves = moves
        self.stack, self.base, self.place, self.pending = [], 0, 0, []
        self.stands, self.steps = "running", 0

    def run(self, most=100000):
        while self.stands == "running" and self.steps < most:
            if self.moves:
                self.stack = self.heap.move_together(self.stack)
            word, *told = self.code[self.place]
            self.place += 1
            self.steps += 1
            getattr(self, "do_" + word.replace(" ", "_"), lambda *told: self.reckon(word))(*told)
        return self.shown(self.stack[0]) if self.stands == "done" else self.stands

    def reckon(self, word):
        other, one = self.stack.pop(), self.stack.pop()
        if word in ["over", "rest"] and other == 0:
            self.stands = "by nought"
        else:
            self.stack.append(SUMS[word](one, other))

    def do_put(self, value):
        self.stack.append(value)

    def do_nil(self):
        self.stack.append(EMPTY)

    def do_get(self, slot):
        self.stack.append(self.stack[self.base + slot])

    def do_not(self):
        self.stack.append(not self.stack.pop())

    def do_empty(self):
        self.stack.append(self.stack.pop() is EMPTY)

    def make(self, sort, held, taken):
        if self.heap.is_full():
            self.stack = self.heap.move_together(self.stack)
        if self.heap.is_full():
            self.stands = "no room"
            return
        reference = self.heap.make(sort, held())
        del self.stack[len(self.stack) - taken:]
        self.stack.append(reference)

    def do_cons(self):
        self.make("cell", lambda: self.stack[-2:], 2)

    def do_pair(self):
        self.make("pair", lambda: self.stack[-2:], 2)

    def do_fn(self, slots, size, knows_itself=False):
        begin = self.place
        self.make("function", lambda: [begin, knows_itself] + [self.stack[self.base + slot] for slot in slots], 0)
        self.place += size

    def do_rec(self, slots, size):
        self.do_fn(slots, size, True)

    def held(self, number):
        reference = self.stack.pop()
        if reference is EMPTY:
            self.stands = "of empty"
        else:
            self.stack.append(self.heap.held_by(reference)[number])

    def do_head(self):
        self.held(0)

    def do_tail(self):
        self.held(1)

    do_first, do_second = do_head, do_tail

    def do_unless(self, size):
        if not self.stack.pop():
            self.place += size

    def do_skip(self, size):
        self.place += size

    def do_slide(self):
        self.stack.pop(-2)

    def do_call(self):
        if len(self.pending) == 40:
            self.stands = "too deep"
            return
        self.pending.append((self.place, self.base))
        self.base = len(self.stack)
        self.stack.extend(self.stack[-2:])
        self.do_last_call()

    def do_last_call(self):
        handed, function = self.stack.pop(), self.stack.pop()
        self.place, knows_itself, *kept = self.heap.held_by(function)
        self.stack[self.base:] = kept + [function] * knows_itself + [handed]

    def do_tell(self):
        self.stack[self.base - 2 if self.pending else 0:] = [self.stack[-1]]
        if self.pending:
            self.place, self.base = self.pending.pop()
        else:
            self.stands = "done"

    def shown(self, value):
        if value is EMPTY or isinstance(value, tuple) and self.heap.sort_of(value) == "cell":
            found = []
            while value is not EMPTY:
                head, value = self.heap.held_by(value)
                found.append(self.shown(head))
            return "[" + ",".join(found) + "]"
        if not isinstance(value, tuple):
            return str(value).lower()
        if self.heap.sort_of(value) == "function":
            return "fn"
        return "(" + ",".join(self.shown(one) for one in self.heap.held_by(value)) + ")"


class TestRuns(unittest.TestCase):
    def test_what_they_come_to(self):
        for text, told in RUNS:
            for moves in [False, True]:
                with self.subTest(text=text, moves=moves):
                    self.assertEqual(Runner(read(text), moves=moves).run(), told)

    def test_parts_that_fit_run_to_an_end(self):
        for text, kind in FIT:
            with self.subTest(text=text):
                self.assertNotEqual(Runner(read(text)).run(), "running")

    def test_deep_parts_run_to_an_end(self):
        for part, kind in deep_parts(70):
            with self.subTest(part=str(part)[:200]):
                shown = Runner(part, moves=True).run()
                self.assertEqual(shown, Runner(part).run())
                self.assertNotEqual(shown, "running")


class TestRoom(unittest.TestCase):
    def things(self, text, room=8):
        """How many things the value of a text is made of, each once."""
        runner = Runner(read(text), room)
        runner.run()
        self.assertEqual(runner.stands, "done")
        runner.heap.move_together(runner.stack)
        return runner.heap.used()

    def test_what_a_value_is_made_of(self):
        for text, count in [
            ("1", 0),
            ("(nil int)", 0),
            ("(cons 1 (cons 2 (nil int)))", 2),
            ("(tail (cons 1 (cons 2 (nil int))))", 1),
            ("(let x (cons 1 (nil int)) (pair x x))", 2),
            ("(let x (cons 1 (nil int)) (fn y int y))", 1),
            ("(let x (cons 1 (nil int)) (fn y int x))", 2),
            ("(let x (cons 1 (nil int)) (fn x int x))", 1),
            ("(let x (cons 1 (nil int)) (fn y int (fn z int x)))", 2),
            ("(let x (cons 1 (nil int)) (call (fn y int (fn z int x)) 1))", 2),
            ("(let x (cons 1 (nil int)) (fn y int (let x 1 x)))", 1),
            ("(let x (cons 1 (nil int)) (rec f y int int (call f y)))", 1),
            ("(let x (cons 1 (nil int)) (rec f y int int (call f (head x))))", 2),
            ("(let x (pair 1 2) (first (pair x x)))", 1),
        ]:
            with self.subTest(text=text):
                self.assertEqual(self.things(text), count)

    def test_what_is_no_longer_of_use_costs_no_room(self):
        self.assertEqual(Runner(read(f"(call {LOOP} (pair 1000 0))"), 4).run(), "500500")
        text = "(call (rec f n int int (if (less n 1) 0 (let l (cons n (nil int)) (call f (minus (head l) 1))))) 1000)"
        self.assertEqual(Runner(read(text), 3).run(), "0")
        text = "(call (rec f g (fun int int) int (if (less 1000 (call g 0)) 1 (let n (call g 1) (call f (fn x int" \
               " (plus x n)))))) (fn x int x))"
        self.assertEqual(Runner(read(text), 4).run(), "1")

    def test_a_function_called_in_last_place_costs_no_room(self):
        text = "(call (fn x int (pair x (pair x x))) 1)"
        self.assertEqual(Runner(read(text), 2).run(), "(1,(1,1))")
        self.assertEqual(Runner(read(text), 1).run(), "no room")
        text = "(call (rec f f int (pair int (pair int int)) (pair f (pair f f))) 1)"
        self.assertEqual(Runner(read(text), 2).run(), "(1,(1,1))")

    def test_what_is_of_use_does(self):
        text = f"(call {UPTO} 9)"
        self.assertEqual(Runner(read(text), 10).run(), "[9,8,7,6,5,4,3,2,1]")
        self.assertEqual(Runner(read(text), 9).run(), "no room")


def parts_in(part):
    return 1 + sum(parts_in(inner) for inner in values_behind(part, "part"))


class TestSteps(unittest.TestCase):
    def test_few_steps_a_part(self):
        for text, told in RUNS:
            # Without these words each part is reckoned once, or not at all behind a trap.
            if not any(word in text for word in ["(if", "(and", "(or", "(fn", "(rec", "over", "rest", "head", "tail"]):
                runner = Runner(read(text))
                runner.run()
                with self.subTest(text=text):
                    self.assertLessEqual(runner.steps, 8 * parts_in(read(text)) + 8)

    def test_few_steps_a_call(self):
        # Each round of the loop reckons 16 parts.
        runner = Runner(read(f"(call {LOOP} (pair 500 0))"))
        runner.run()
        self.assertLessEqual(runner.steps, 8 * 16 * 500)

    def test_a_function_that_keeps_many_names(self):
        part = ("fn", "z", "int", ("num", 0))
        for number in range(30):
            part = ("fn", "z", "int", ("let", "z", ("name", f"n{number}"), part))
        for number in range(30):
            part = ("let", f"n{number}", ("num", number), part)
        runner = Runner(part)
        self.assertEqual(runner.run(), "fn")
        self.assertLessEqual(runner.steps, 8 * 61 + 8)


if __name__ == "__main__":
    unittest.main()
