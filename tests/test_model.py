"""THE PROMISE: the machine comes to what a plain reckoner comes to, which does just what [30] to [33] say.

The reckoner has no code, no steps and no heap: it goes through the parts themselves. Of each part that is being reckoned
it keeps a row: the names in scope, the values so far, and whether the part ends with the one that is reckoned in it.
"""

import sys
import unittest

from plainspeak.compiling import compiled
from plainspeak.errors import TooLong
from plainspeak.machine import Machine
from plainspeak.reading import read
from plainspeak.words import values_behind
from samples import BUILD, FIT, LOOP, NUM, RUNS, SUM, SUMS, TRAP, UPTO, deep_parts, doubled

# Parts in last place lie within one another here.
sys.setrecursionlimit(max(sys.getrecursionlimit(), 20000))


class Trapped(Exception):
    pass


class Thing:
    def __init__(self, part, held, names):
        self.part, self.held, self.names = part, held, names


class LastCall:
    def __init__(self, function, handed):
        self.function, self.handed = function, handed


def names_in(part):
    """The names of outside in a part."""
    if part[0] == "name":
        return {part[1]}
    inner = [names_in(one) for one in values_behind(part, "part")]
    if part[0] in ["let", "fn", "rec"]:
        inner[-1] -= set(values_behind(part, "name"))
    return set().union(*inner)


def held(thing, place):
    if thing is None:
        raise Trapped("of empty")
    return thing.held[place]


MADE_OF_ONE = {
    "head": lambda one: held(one, 0),
    "tail": lambda one: held(one, 1),
    "first": lambda one: held(one, 0),
    "second": lambda one: held(one, 1),
    "empty": lambda one: one is None,
    "not": lambda one: not one,
}


def sum_of(word, one, other):
    try:
        return SUMS[word](one, other)
    except ZeroDivisionError:
        raise Trapped("by nought") from None


class Reckoner:
    def __init__(self):
        self.rows, self.pending, self.reckoned = [], 0, 0
        # How many things could be reached right ahead of each that was made, and how many right behind it.
        self.makings = []

    def program(self, part):
        """How it stands at last, and the value."""
        try:
            value = self.reckon(part, {}, True)
            return "done", self.function_part(value.function, value.handed) if isinstance(value, LastCall) else value
        except Trapped as trap:
            return str(trap), None

    def reckon(self, part, names, last):
        self.reckoned += 1
        row = {"names": names, "values": [], "ending": False}
        self.rows.append(row)
        value = self.value_of(part, names, last, row)
        self.rows.pop()
        return value

    def value_of(self, part, names, last, row):
        word = part[0]
        if word in ["num", "truth"]:
            return part[1]
        if word == "nil":
            return None
        if word == "name":
            return names[part[1]]
        if word in ["if", "and", "or"]:
            return self.choice(part, names, last, row)
        if word == "let":
            row["values"].append(self.reckon(part[2], names, False))
            row["ending"] = True
            return self.reckon(part[3], {**names, part[1]: row["values"][0]}, last)
        if word in ["fn", "rec"]:
            kept = {name: names[name] for name in names_in(part)}
            return self.make(part, list(kept.values()), kept)
        for inner in values_behind(part, "part"):
            row["values"].append(self.reckon(inner, names, False))
        if word in ["cons", "pair"]:
            return self.make(part, list(row["values"]), {})
        if word == "call":
            return self.call(row, last)
        if word in SUMS:
            return sum_of(word, *row["values"])
        return MADE_OF_ONE[word](*row["values"])

    def choice(self, part, names, last, row):
        first = self.reckon(part[1], names, False)
        row["ending"] = True
        if part[0] == "if":
            return self.reckon(part[2] if first else part[3], names, last)
        return self.reckon(part[2], names, last) if first == (part[0] == "and") else first

    def call(self, row, last):
        if last:
            return LastCall(*row["values"])
        if self.pending == 40:
            raise Trapped("too deep")
        self.pending += 1
        row["ending"] = True
        value = self.function_part(*row["values"])
        self.pending -= 1
        return value

    def function_part(self, function, handed):
        while True:
            own = values_behind(function.part, "name")
            names = {**function.names, own[0]: function, own[-1]: handed}
            value = self.reckon(function.part[-1], names, True)
            if not isinstance(value, LastCall):
                return value
            function, handed = value.function, value.handed

    def make(self, part, held, names):
        thing = Thing(part, held, names)
        rows = self.rows[:-1]
        while rows and rows[-1]["ending"]:
            rows.pop()
        self.makings.append((reached(self.rows, []), reached(rows, [thing])))
        return thing


def reached(rows, values):
    waiting = list(values)
    for row in rows:
        waiting.extend(row["names"].values())
        waiting.extend(row["values"])
    found = set()
    while waiting:
        value = waiting.pop()
        if isinstance(value, Thing) and value not in found:
            found.add(value)
            waiting.extend(value.held)
    return len(found)


TREE = "(rec t n int (list int) (if (less n 1) (nil int) (let a (call t (minus n 2)) (let b (call t (minus n 1))" \
       " (cons n (if (empty a) b (cons (head a) b)))))))"
APPLIED = "(fn g (fun int (list int)) (fn x int (cons x (call g (plus x 1)))))"

# Programs that keep things in all sorts of places while they make others.
KEEPING = [
    f"(call {TREE} 6)",
    f"(pair (call {TREE} 4) (call {TREE} 5))",
    f"(let h {APPLIED} (call (call h (call h (call h (fn x int (nil int))))) 1))",
    f"(plus (head (call {UPTO} 5)) (call {LOOP} (pair 5 0)))",
    f"(plus (call {LOOP} (pair 5 0)) (head (call {BUILD} (pair 5 (nil int)))))",
    f"(let l (call {BUILD} (pair 5 (nil int))) (let m (tail l) (let l (head l) (cons l (tail m)))))",
    f"(let l (call {BUILD} (pair 3 (nil int))) (plus (call (fn x (list int) (head (tail x))) (cons 1 l)) {TRAP}))",
    f"(plus (call (fn x (list int) {TRAP}) (cons 1 (nil int))) 1)",
    f"(plus (call (fn x (list int) (call (fn y int (first (pair y {TRAP}))) (head x))) (cons 1 (nil int))) 1)",
    "(call (fn x (list int) (call (fn y int (pair y (pair y y))) (head x))) (cons 1 (nil int)))",
    "(pair (call (fn x int (pair x (let y (pair x x) (first y)))) 1) (call (rec f x int (list int) (cons x (nil int))) 2))",
    "(call (rec f f (pair int int) (pair int int) (pair (second f) (first f))) (pair 1 2))",
    "(first (pair (call (rec f f (pair int int) (pair int int) (pair (second f) (first f))) (pair 1 2)) 1))",
    "(call (rec f n int (list (fun int int)) (if (less n 1) (nil (fun int int)) (cons (fn x int (plus x n))"
    " (call f (minus n 1))))) 5)",
    "(call (call (fn x (list int) (fn y int (let x (pair y y) (pair (first x) y)))) (cons 1 (nil int))) 2)",
    "(let x (pair 1 2) (let x (pair x x) (let x (pair x x) (let y (first x) (pair y (pair x y))))))",
    "(let f (let a (pair 1 2) (let b (pair 3 4) (fn x int (plus x (first b))))) (pair (call f 1) (pair 5 6)))",
    "(let x (cons 1 (nil int)) (and (let y (cons 2 x) (empty y)) (first (pair true x))))",
    "(not (or (let y (pair true false) (second y)) (first (pair (empty (cons 1 (nil int))) 1))))",
    "(pair (let x (pair 1 2) (if true (pair 3 4) x)) (let x (pair 1 2) (if false x (pair 3 4))))",
    "(first (pair (let x (pair true 1) (or false (first (pair (first x) 2)))) (let x (pair 1 2) (let y x (pair 3 x)))))",
    f"(let h (fn g (fun int int) (pair (call g 3) (call g 4))) (call h {SUM}))",
    "(call (rec f p (pair int (list int)) int (if (less (first p) 1) (head (second p)) (plus 0 (call f (pair (minus"
    " (first p) 1) (cons (first p) (second p))))))) (pair 6 (nil int)))",
    "(call (rec f n int int (if (less n 1) (head (tail (cons 1 (nil int)))) (plus (call f (minus n 1)) 1))) 3)",
    "(call (rec f n int int (let p (pair n n) (plus (first p) (call f (minus (second p) 1))))) 1)",
]


def every_part():
    """Parts of all sorts; each comes to an end."""
    for text in KEEPING + [text for text, told in RUNS] + [text for text, kind in FIT]:
        yield read(text)
    for part, kind in deep_parts(70):
        yield part
    yield doubled(60, NUM)


def shown(machine):
    try:
        return machine.shown()
    except TooLong:
        return None


def text_of(value):
    """The text of a value, or None where it is too long."""
    if not isinstance(value, Thing):
        return "[]" if value is None else str(value).lower()
    if value.part[0] in ["fn", "rec"]:
        return "fn"
    texts = [text_of(value.held[0])]
    behind = value.held[1]
    while value.part[0] == "cons" and behind is not None:
        texts.append(text_of(behind.held[0]))
        behind = behind.held[1]
    if value.part[0] == "pair":
        # Where the first is too long the second would only be as long again.
        texts.append(text_of(behind) if texts[0] else None)
    if None in texts or sum(len(text) + 1 for text in texts) + 1 > 1000:
        return None
    return ("[{}]" if value.part[0] == "cons" else "({})").format(",".join(texts))


class TestAgainstTheReckoner(unittest.TestCase):
    @classmethod
    def setUpClass(cls):
        cls.runs = []
        for part in every_part():
            reckoner = Reckoner()
            stands, value = reckoner.program(part)
            cls.runs.append((part, compiled(part), reckoner, stands, value))

    def test_they_come_to_every_end(self):
        self.assertEqual({stands for part, code, reckoner, stands, value in self.runs},
                         {"done", "by nought", "of empty", "too deep"})

    def test_the_end_at_once(self):
        for part, code, reckoner, stands, value in self.runs:
            with self.subTest(part=str(part)[:300]):
                machine = Machine(code, 400)
                # [40]: so many steps are enough.
                self.assertEqual(machine.run(8 * reckoner.reckoned + 8), stands)
                self.assertEqual(machine.made(), len(reckoner.makings))
                if stands == "done":
                    self.assertEqual(machine.collect(), reached([], [value]))
                    self.assertEqual(shown(machine), text_of(value))

    def test_what_can_be_reached_behind_each_step(self):
        for part, code, reckoner, stands, value in self.runs:
            machine = Machine(code, 400)
            found = []
            while machine.run(0) == "running":
                ahead, made = machine.collect(), machine.made()
                machine.run(1)
                if machine.made() > made:
                    found.append((ahead, machine.collect()))
            with self.subTest(part=str(part)[:300]):
                self.assertEqual(found, reckoner.makings)
                self.assertEqual(machine.run(0), stands)
                if stands != "done":
                    # What the trap stopped is still being reckoned.
                    self.assertEqual(machine.collect(), reached(reckoner.rows, []))

    def test_no_room_only_where_more_than_half_is_reached(self):
        for room in [8, 9, 12, 20]:
            for part, code, reckoner, stands, value in self.runs:
                needed = max([0] + [ahead + 1 for ahead, behind in reckoner.makings])
                machine = Machine(code, room)
                found = machine.run(8 * reckoner.reckoned + 8)
                with self.subTest(part=str(part)[:300], room=room):
                    if 2 * needed <= room:
                        self.assertEqual(found, stands)
                    elif needed > room:
                        self.assertEqual(found, "no room")
                    else:
                        self.assertIn(found, [stands, "no room"])

    def test_however_moved_and_divided(self):
        for part, code, reckoner, stands, value in self.runs:
            for room in [8, 20, 400]:
                whole_run = Machine(code, room)
                whole_run.run(8 * reckoner.reckoned + 8)
                for sizes in [[1], [2, 3], [0, 1, 0, 5], [17, 0]]:
                    for moved in [False, True]:
                        machine = Machine(code, room)
                        for size in sizes * (8 * reckoner.reckoned + 8):
                            if machine.run(size) != "running":
                                break
                            if moved:
                                self.assertEqual(machine.collect(), machine.used())
                            self.assertLessEqual(machine.used(), room)
                        with self.subTest(part=str(part)[:300], room=room, sizes=sizes, moved=moved):
                            self.assertEqual(machine.run(0), whole_run.run(0))
                            self.assertEqual(machine.made(), whole_run.made())
                            self.assertEqual(machine.collect(), whole_run.collect())
                            if machine.run(0) == "done":
                                self.assertEqual(shown(machine), shown(whole_run))


if __name__ == "__main__":
    unittest.main()
