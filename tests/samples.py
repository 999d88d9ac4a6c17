"""Parts with their texts, for each word, and what several tests need to know of the words and of how parts run."""

import fractions
import math

from plainspeak.compiling import compiled
from plainspeak.errors import TooLong
from plainspeak.machine import Machine
from plainspeak.reading import read

NUM = ("num", 1)
YES = ("truth", True)
X = ("name", "x")

LEAST = -9223372036854775808
GREATEST = 9223372036854775807

KIND_WORDS = ["list", "pair", "fun"]
BARE_WORDS = ["num", "truth", "name", "true", "false", "int", "bool"]

# One text for each word that stands behind a part's opening bracket.
PARTS = [
    (("nil", "int"), "(nil int)"),
    (("nil", ("list", "bool")), "(nil (list bool))"),
    (("cons", NUM, X), "(cons 1 x)"),
    (("head", X), "(head x)"),
    (("tail", X), "(tail x)"),
    (("empty", X), "(empty x)"),
    (("pair", NUM, YES), "(pair 1 true)"),
    (("first", X), "(first x)"),
    (("second", X), "(second x)"),
    (("if", YES, NUM, X), "(if true 1 x)"),
    (("let", "x", NUM, X), "(let x 1 x)"),
    (("fn", "x", "int", X), "(fn x int x)"),
    (("fn", "x", ("pair", "int", "bool"), X), "(fn x (pair int bool) x)"),
    (("rec", "f", "x", "int", ("list", "int"), X), "(rec f x int (list int) x)"),
    (("rec", "f", "x", ("fun", "int", "bool"), "bool", NUM), "(rec f x (fun int bool) bool 1)"),
    (("call", ("name", "f"), X), "(call f x)"),
    (("plus", NUM, X), "(plus 1 x)"),
    (("minus", NUM, X), "(minus 1 x)"),
    (("times", NUM, X), "(times 1 x)"),
    (("over", NUM, X), "(over 1 x)"),
    (("rest", NUM, X), "(rest 1 x)"),
    (("less", NUM, X), "(less 1 x)"),
    (("same", NUM, X), "(same 1 x)"),
    (("and", YES, X), "(and true x)"),
    (("or", YES, X), "(or true x)"),
    (("not", YES), "(not true)"),
]

BARE = [
    (("num", 0), "0"),
    (("num", 1), "1"),
    (("num", -1), "-1"),
    (("num", 10), "10"),
    (("num", -250), "-250"),
    (("num", LEAST), "-9223372036854775808"),
    (("num", GREATEST), "9223372036854775807"),
    (("truth", True), "true"),
    (("truth", False), "false"),
    (("name", "x"), "x"),
    (("name", "a1"), "a1"),
    (("name", "abcdefgh"), "abcdefgh"),
    (("name", "z0123456"), "z0123456"),
]

# Parts within parts, so that brackets stand next to brackets and to runs on both sides.
DEEPER = [
    (
        ("let", "f", ("rec", "g", "n", "int", "int", ("if", ("less", ("name", "n"), NUM), ("num", 0),
                      ("call", ("name", "g"), ("minus", ("name", "n"), NUM)))),
         ("call", ("name", "f"), ("num", 5))),
        "(let f (rec g n int int (if (less n 1) 0 (call g (minus n 1)))) (call f 5))",
    ),
    (
        ("cons", ("pair", ("num", -3), ("nil", ("fun", "int", ("list", "bool")))), ("nil", ("pair", "int", "int"))),
        "(cons (pair -3 (nil (fun int (list bool)))) (nil (pair int int)))",
    ),
    (
        ("fn", "p", ("pair", ("list", "int"), "bool"), ("and", ("second", ("name", "p")),
         ("not", ("empty", ("first", ("name", "p")))))),
        "(fn p (pair (list int) bool) (and (second p) (not (empty (first p)))))",
    ),
]

EVERY = PARTS + BARE + DEEPER

PART_WORDS = []
for sample in PARTS:
    if sample[0][0] not in PART_WORDS:
        PART_WORDS.append(sample[0][0])

WORDS = PART_WORDS + [word for word in KIND_WORDS if word not in PART_WORDS] + BARE_WORDS


def pieces(text):
    """The brackets and runs of a sound text, with their places."""
    found = []
    place = 0
    while place < len(text):
        end = place + 1
        if text[place] not in " \n()":
            while end < len(text) and text[end] not in " \n()":
                end += 1
        if text[place] not in " \n":
            found.append((text[place:end], place))
        place = end
    return found


# A part of each of these kinds, and the kind itself.
VALUES = {
    "int": ("1", "int"),
    "bool": ("true", "bool"),
    "ints": ("(nil int)", ("list", "int")),
    "bools": ("(nil bool)", ("list", "bool")),
    "both": ("(pair 1 true)", ("pair", "int", "bool")),
    "fun": ("(fn x int true)", ("fun", "int", "bool")),
}

# What of VALUES fits behind a word, and what comes of it; nothing else of VALUES fits there.
FITTING = {
    "cons": {("int", "ints"): "ints", ("bool", "bools"): "bools"},
    "head": {("ints",): "int", ("bools",): "bool"},
    "tail": {("ints",): "ints", ("bools",): "bools"},
    "empty": {("ints",): "bool", ("bools",): "bool"},
    "first": {("both",): "int"},
    "second": {("both",): "bool"},
    "if": {("bool", value, value): value for value in VALUES},
    "call": {("fun", "int"): "bool"},
    "plus": {("int", "int"): "int"},
    "minus": {("int", "int"): "int"},
    "times": {("int", "int"): "int"},
    "over": {("int", "int"): "int"},
    "rest": {("int", "int"): "int"},
    "less": {("int", "int"): "bool"},
    "same": {("int", "int"): "bool"},
    "and": {("bool", "bool"): "bool"},
    "or": {("bool", "bool"): "bool"},
    "not": {("bool",): "bool"},
}

# Texts of parts that fit, with their kinds.
FIT = [
    # numbers, truths, empty lists
    ("0", "int"),
    ("-9223372036854775808", "int"),
    ("9223372036854775807", "int"),
    ("true", "bool"),
    ("false", "bool"),
    ("(nil (list bool))", ("list", ("list", "bool"))),
    ("(nil (fun int (pair bool int)))", ("list", ("fun", "int", ("pair", "bool", "int")))),
    # names bound by let, fn and rec, and bound anew within
    ("(let x 1 x)", "int"),
    ("(let x 1 true)", "bool"),
    ("(let x true (let y 1 x))", "bool"),
    ("(let x 1 (let x true x))", "bool"),
    ("(let x 1 (pair (let x true x) x))", ("pair", "bool", "int")),
    ("(let x 1 (pair x (let x true x)))", ("pair", "int", "bool")),
    ("(let x 1 (let x (less x 2) x))", "bool"),
    ("(let x 1 (let x (pair x x) (let x (pair x true) x)))", ("pair", ("pair", "int", "int"), "bool")),
    ("(let x 1 (fn x bool x))", ("fun", "bool", "bool")),
    ("(fn x bool (let x 1 x))", ("fun", "bool", "int")),
    ("(fn x int (fn x bool x))", ("fun", "int", ("fun", "bool", "bool"))),
    ("(fn x int (fn y bool x))", ("fun", "int", ("fun", "bool", "int"))),
    ("(pair (fn x int x) (fn x bool x))", ("pair", ("fun", "int", "int"), ("fun", "bool", "bool"))),
    ("(let x (fn x int true) (call x 1))", "bool"),
    # functions that know themselves
    ("(rec f x int bool true)", ("fun", "int", "bool")),
    ("(rec f x int bool (call f x))", ("fun", "int", "bool")),
    ("(rec f f int int f)", ("fun", "int", "int")),
    ("(rec f f bool int (if f 1 2))", ("fun", "bool", "int")),
    ("(rec f f (fun int bool) bool (call f 1))", ("fun", ("fun", "int", "bool"), "bool")),
    ("(rec f x int int (let f x (plus f 1)))", ("fun", "int", "int")),
    ("(let f true (rec f x int int (call f x)))", ("fun", "int", "int")),
    ("(let x true (rec f x int int x))", ("fun", "int", "int")),
    ("(rec f x int (fun int int) (rec g y int int (call (call f y) x)))",
     ("fun", "int", ("fun", "int", "int"))),
    ("(let f (rec g n int int (if (less n 1) 0 (plus n (call g (minus n 1))))) (call f 5))", "int"),
    ("(rec f l (list int) int (if (empty l) 0 (plus (head l) (call f (tail l)))))", ("fun", ("list", "int"), "int")),
    # kinds of functions, pairs and lists within one another
    ("(cons (pair 1 (nil bool)) (nil (pair int (list bool))))", ("list", ("pair", "int", ("list", "bool")))),
    ("(head (cons (fn x int x) (nil (fun int int))))", ("fun", "int", "int")),
    ("(call (head (cons (fn x int x) (nil (fun int int)))) 1)", "int"),
    ("(tail (head (nil (list (list int)))))", ("list", ("list", "int"))),
    ("(first (second (pair 1 (pair (nil int) true))))", ("list", "int")),
    ("(fn p (pair (fun int bool) int) (call (first p) (second p)))",
     ("fun", ("pair", ("fun", "int", "bool"), "int"), "bool")),
    ("(fn f (fun int (fun bool int)) (fn g (fun int bool) (fn x int (call (call f x) (call g x)))))",
     ("fun", ("fun", "int", ("fun", "bool", "int")), ("fun", ("fun", "int", "bool"), ("fun", "int", "int")))),
    ("(if true (fn x int (nil int)) (fn y int (cons y (nil int))))", ("fun", "int", ("list", "int"))),
    ("(pair (pair 1 true) (pair true 1))", ("pair", ("pair", "int", "bool"), ("pair", "bool", "int"))),
]

# Texts of parts that don't fit; a name where it is a name that nothing binds, else None.
UNFIT = [
    # names that nothing binds, or that are bound elsewhere only
    ("x", "x"),
    ("abcdefgh", "abcdefgh"),
    ("(not x)", "x"),
    ("(let x 1 y)", "y"),
    ("(let x x 1)", "x"),
    ("(let x (plus x 1) x)", "x"),
    ("(let x (fn y int x) x)", "x"),
    ("(let f (fn n int (call f n)) 1)", "f"),
    ("(fn x int y)", "y"),
    ("(rec f x int int y)", "y"),
    ("(rec f x int int g)", "g"),
    ("(plus (let x 1 x) x)", "x"),
    ("(plus x (let x 1 x))", "x"),
    ("(pair (fn x int x) x)", "x"),
    ("(pair x (fn x int x))", "x"),
    ("(pair (rec f x int int x) x)", "x"),
    ("(pair (rec f x int int x) f)", "f"),
    ("(call (fn x int x) x)", "x"),
    ("(call (rec f x int int x) f)", "f"),
    ("(if (let x true x) x 1)", "x"),
    ("(let y (let x 1 x) x)", "x"),
    ("(let x 1 (plus (let y 2 y) y))", "y"),
    # the parts of let, fn and rec
    ("(let x true (plus x 1))", None),
    ("(let x 1 (let x true (plus x 1)))", None),
    ("(let x (plus 1 true) 1)", None),
    ("(fn x bool (plus x 1))", None),
    ("(fn x int (not x))", None),
    ("(rec f x int bool x)", None),
    ("(rec f x bool int x)", None),
    ("(rec f x int bool f)", None),
    ("(rec f x int (fun int bool) f)", None),
    ("(rec f x int int (call f true))", None),
    ("(rec f x int int (not (call f x)))", None),
    ("(rec f x int int (plus f x))", None),
    ("(rec f f int int (call f f))", None),
    ("(rec f f int (fun int int) f)", None),
    ("(let f true (rec f x int int (if f 1 2)))", None),
    # kinds that are alike only outside
    ("(cons (nil int) (nil (list bool)))", None),
    ("(cons (nil int) (nil int))", None),
    ("(cons 1 (cons true (nil bool)))", None),
    ("(if true (pair 1 true) (pair true 1))", None),
    ("(if true (nil (pair int int)) (nil (pair int bool)))", None),
    ("(if true (fn x int 1) (fn x bool 1))", None),
    ("(if true (fn x int 1) (fn x int true))", None),
    ("(call (fn x (list int) 1) (nil bool))", None),
    ("(call (fn f (fun int int) 1) (fn x int true))", None),
    ("(call (pair 1 1) 1)", None),
    ("(call (fn x int x) (fn x int x))", None),
    ("(first (fn x int x))", None),
    ("(head (pair 1 1))", None),
    ("(same true true)", None),
    ("(same (nil int) (nil int))", None),
    # two faults: the left one first, and the inner one ahead of the outer one
    ("(plus y z)", "y"),
    ("(plus (plus 1 true) y)", None),
    ("(plus y (plus 1 true))", "y"),
    ("(plus true y)", "y"),
    ("(plus y true)", "y"),
    ("(not (plus 1 y))", "y"),
    ("(not (plus true 1))", None),
    ("(cons 1 y)", "y"),
    ("(cons true (cons y (nil int)))", "y"),
    ("(if 1 y 2)", "y"),
    ("(if 1 2 y)", "y"),
    ("(if (not 1) y 2)", None),
    ("(if y z 1)", "y"),
    ("(call 1 y)", "y"),
    ("(call y (not 1))", "y"),
    ("(call (not 1) y)", None),
    ("(and 1 y)", "y"),
    ("(or 1 y)", "y"),
    ("(pair (head 1) y)", None),
    ("(pair y (head 1))", "y"),
    ("(let x y (not 1))", "y"),
    ("(let x (not 1) y)", None),
    ("(let x 1 (plus (not x) y))", None),
    ("(fn x int (plus true y))", "y"),
    ("(rec f x int int (pair y true))", "y"),
    ("(rec f x int int (if true y true))", "y"),
    ("(pair (rec f x int int true) y)", None),
]

NO = ("truth", False)
INTS = ("nil", "int")

# Each word that can hold itself, in each place where it can: a part to begin with, its kind, how many parts one round
# lays around another, and what it lays.
ROUNDS = [
    (INTS, ("list", "int"), 1, lambda part: ("cons", NUM, part)),
    (INTS, ("list", "int"), 1, lambda part: ("tail", part)),
    (NUM, "int", 2, lambda part: ("head", ("cons", part, INTS))),
    (YES, "bool", 2, lambda part: ("empty", ("cons", part, ("nil", "bool")))),
    (NUM, "int", 2, lambda part: ("first", ("pair", part, YES))),
    (NUM, "int", 2, lambda part: ("second", ("pair", YES, part))),
    (YES, "bool", 1, lambda part: ("if", part, YES, NO)),
    (NUM, "int", 1, lambda part: ("if", YES, part, NUM)),
    (NUM, "int", 1, lambda part: ("if", NO, NUM, part)),
    (NUM, "int", 1, lambda part: ("let", "x", part, X)),
    (NUM, "int", 1, lambda part: ("let", "x", NUM, part)),
    (NUM, "int", 2, lambda part: ("call", ("fn", "x", "int", part), NUM)),
    (NUM, "int", 2, lambda part: ("call", ("rec", "f", "x", "int", "int", part), NUM)),
    (NUM, "int", 1, lambda part: ("call", ("fn", "x", "int", X), part)),
    (YES, "bool", 2, lambda part: ("less", ("if", part, NUM, NUM), NUM)),
    (YES, "bool", 2, lambda part: ("less", NUM, ("if", part, NUM, NUM))),
    (YES, "bool", 2, lambda part: ("same", ("if", part, NUM, NUM), NUM)),
    (YES, "bool", 2, lambda part: ("same", NUM, ("if", part, NUM, NUM))),
    (YES, "bool", 1, lambda part: ("and", part, YES)),
    (YES, "bool", 1, lambda part: ("and", YES, part)),
    (YES, "bool", 1, lambda part: ("or", part, YES)),
    (YES, "bool", 1, lambda part: ("or", NO, part)),
    (YES, "bool", 1, lambda part: ("not", part)),
]
for word in ["plus", "minus", "times", "over", "rest"]:
    ROUNDS.append((NUM, "int", 1, lambda part, word=word: (word, part, NUM)))
    ROUNDS.append((NUM, "int", 1, lambda part, word=word: (word, NUM, part)))


def rounds(depth, begin, levels, lay):
    """A part with as many others around it as make it so deep."""
    part = begin
    for _ in range((depth - 1) // levels):
        part = lay(part)
    return part


def deep_parts(depth):
    """Parts so deep of each word that can hold itself, and their kinds."""
    found = [(rounds(depth, begin, levels, lay), kind) for begin, kind, levels, lay in ROUNDS]
    # Of these the kinds grow with the parts.
    part, kind = NUM, "int"
    for _ in range(depth - 1):
        part, kind = ("pair", part, YES), ("pair", kind, "bool")
    found.append((part, kind))
    part, kind = NUM, "int"
    for _ in range(depth - 1):
        part, kind = ("pair", YES, part), ("pair", "bool", kind)
    found.append((part, kind))
    part, kind = X, "int"
    for _ in range(depth - 1):
        part, kind = ("fn", "x", "int", part), ("fun", "int", kind)
    found.append((part, kind))
    part, kind = X, "int"
    for _ in range(min(depth - 1, 40)):
        part, kind = ("rec", "f", "x", "int", kind, part), ("fun", "int", kind)
    found.append((part, kind))
    return found


def doubled(times, begin):
    """A name paired with itself so many times: its kind as a text would be longer than anything can hold."""
    part = X
    for _ in range(times):
        part = ("let", "x", ("pair", X, X), part)
    return ("let", "x", begin, part)


def brought_in(number):
    """A number as 64 bits hold it."""
    return int.from_bytes((number & (2 ** 64 - 1)).to_bytes(8, "big"), "big", signed=True)


def cut(one, other):
    return math.trunc(fractions.Fraction(one, other))


# What the words of two numbers make of them, but over and rest by nought, which are Python's own error here.
SUMS = {
    "plus": lambda one, other: brought_in(one + other),
    "minus": lambda one, other: brought_in(one - other),
    "times": lambda one, other: brought_in(one * other),
    "over": lambda one, other: brought_in(cut(one, other)),
    "rest": lambda one, other: one - other * cut(one, other),
    "less": lambda one, other: one < other,
    "same": lambda one, other: one == other,
}


SUM = "(rec s n int int (if (less n 1) 0 (plus n (call s (minus n 1)))))"
LOOP = "(rec s p (pair int int) int (if (less (first p) 1) (second p)" \
       " (call s (pair (minus (first p) 1) (plus (second p) (first p))))))"
UPTO = "(rec u n int (list int) (if (less n 1) (nil int) (cons n (call u (minus n 1)))))"
BUILD = "(rec b p (pair int (list int)) (list int) (if (less (first p) 1) (second p)" \
        " (call b (pair (minus (first p) 1) (cons (first p) (second p))))))"
TRAP = "(over 1 0)"
# Goes on for ever, in last place or not, and makes nothing but one function.
SPIN = "(call (rec s n int int (call s n)) 0)"

# Texts, and what they come to.
RUNS = [
    ("-5", "-5"), ("true", "true"), ("(nil int)", "[]"), ("(fn x int x)", "fn"), ("(rec f x int int x)", "fn"),
    ("(plus 2 3)", "5"), ("(minus 2 3)", "-1"), ("(times -2 3)", "-6"), ("(less 1 2)", "true"), ("(less 2 2)", "false"),
    ("(same 2 2)", "true"), ("(same 2 3)", "false"), ("(not true)", "false"),
    ("(over -7 2)", "-3"), ("(rest -7 2)", "-1"), ("(over 7 -2)", "-3"), ("(rest 7 -2)", "1"),
    ("(plus 9223372036854775807 1)", "-9223372036854775808"),
    ("(over -9223372036854775808 -1)", "-9223372036854775808"), ("(rest -9223372036854775808 -1)", "0"),
    ("(over 1 0)", "by nought"), ("(rest 1 0)", "by nought"),
    ("(head (nil int))", "of empty"), ("(tail (nil int))", "of empty"),
    ("(cons 1 (cons 2 (nil int)))", "[1,2]"), ("(head (cons 1 (cons 2 (nil int))))", "1"),
    ("(tail (cons 1 (cons 2 (nil int))))", "[2]"), ("(empty (nil int))", "true"), ("(empty (cons 1 (nil int)))", "false"),
    ("(pair 1 (pair true (nil int)))", "(1,(true,[]))"), ("(first (pair 1 2))", "1"), ("(second (pair 1 2))", "2"),
    # what is not reckoned
    (f"(if true 1 {TRAP})", "1"), (f"(if false {TRAP} 2)", "2"), (f"(plus 1 (if true 1 {TRAP}))", "2"),
    (f"(plus (if false {TRAP} 2) 1)", "3"), (f"(and false (same 1 {TRAP}))", "false"), ("(and true false)", "false"),
    ("(and true true)", "true"), (f"(or true (same 1 {TRAP}))", "true"), ("(or false true)", "true"),
    ("(or false false)", "false"), (f"(not (and false (same 1 {TRAP})))", "true"),
    (f"(not (or true (same 1 {TRAP})))", "false"), ("(not (and true true))", "false"), ("(not (or false false))", "true"),
    (f"(let f (fn x int {TRAP}) 1)", "1"),
    # from the left
    (f"(plus (head (nil int)) {TRAP})", "of empty"), (f"(plus {TRAP} (head (nil int)))", "by nought"),
    (f"(call (head (nil (fun int int))) {TRAP})", "of empty"),
    (f"(let x {TRAP} (head (nil int)))", "by nought"), (f"(call (fn x int (head (nil int))) {TRAP})", "by nought"),
    ("(minus (minus 10 3) (minus 5 1))", "3"),
    # names
    ("(let x 1 (let x 2 x))", "2"), ("(let x 1 (plus (let x 2 x) x))", "3"), ("(let x 1 (pair x (let x 2 x)))", "(1,2)"),
    ("(minus 10 (let x 3 (minus x (let y 2 (minus x y)))))", "8"),
    ("(let x 1 (let f (fn y int (plus x y)) (let x 10 (call f x))))", "11"),
    ("(let x 1 (let f (fn x int (plus x x)) (plus (call f 5) x)))", "11"),
    ("(call (call (fn x int (fn y int (minus x y))) 10) 3)", "7"),
    ("(let a 1 (let b 2 (call (fn x int (call (fn y int (pair (pair a b) (pair x y))) 4)) 3)))", "((1,2),(3,4))"),
    ("(let f (fn x int (plus x 1)) (let g (fn x int (call f (call f x))) (call g 1)))", "3"),
    ("(call (rec f f int int (plus f 1)) 1)", "2"),
    ("(let y 5 (call (rec f x int int (if (less x 1) y (call f (minus x 1)))) 3))", "5"),
    ("(let f (rec f x int int (if (less x 1) 0 (call f (minus x 1)))) (let g f (let f 1 (call g f))))", "0"),
    # calls in last place and others
    (f"(call {SUM} 40)", "820"), (f"(call {SUM} 41)", "too deep"), (f"(plus 0 (call {SUM} 39))", "780"),
    (f"(plus 0 (call {SUM} 40))", "too deep"), (f"(call {LOOP} (pair 500 0))", "125250"),
    (f"(plus 0 (call {LOOP} (pair 500 0)))", "125250"),
    (f"(call {UPTO} 9)", "[9,8,7,6,5,4,3,2,1]"),
    ("(call (rec f n int bool (or (less n 1) (call f (minus n 1)))) 200)", "true"),
    ("(call (rec f n int bool (and (less 0 n) (call f (minus n 1)))) 200)", "false"),
    ("(call (rec f n int int (let m (minus n 1) (if (less m 0) m (call f m)))) 200)", "-1"),
    ("(call (rec f n int bool (not (if (less n 1) true (call f (minus n 1))))) 200)", "too deep"),
    ("(call (rec f n int int (call f (call f n))) 1)", "too deep"),
    ("(call (rec f n int int (plus (call f (head (nil int))) 0)) 1)", "of empty"),
    ("(call (rec f n int int (if (less n 1) (head (nil int)) (plus (call f (minus n 1)) 0))) 40)", "of empty"),
    ("(call (rec f n int int (plus (call f (if (less n 1) (head (nil int)) (minus n 1))) 0)) 40)", "of empty"),
    ("(call (rec f n int int (plus (call f (if (less n 1) (head (nil int)) (minus n 1))) 0)) 41)", "too deep"),
]

MANY_STEPS = 200000


def machine_of(text, room=400):
    return Machine(compiled(read(text)), room)


def ended(text, room=400):
    """A machine that has run to its end."""
    machine = machine_of(text, room)
    machine.run(MANY_STEPS)
    return machine


def told_by(machine):
    """The text of a machine's value, or how it stands."""
    stands = machine.run(0)
    try:
        return machine.shown() if stands == "done" else stands
    except TooLong:
        return "too long"


def came_to(text, room=400):
    return told_by(ended(text, room))
