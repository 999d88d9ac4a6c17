"""Parts with their texts, for each word, and what several tests need to know of the words."""

NUM = ("num", 1)
YES = ("truth", True)
X = ("name", "x")

LEAST = -9223372036854775808
GREATEST = 9223372036854775807

KIND_WORDS = ["list", "pair", "fun"]
BARE_WORDS = ["num", "truth", "name", "true", "false", "int", "bool"]

# One text for each word that stands behind a part's opening bracket.
PARTS = [
    (("nil", "int"), "(nil int)"),
    (("nil", ("list", "bool")), "(nil (list bool))"),
    (("cons", NUM, X), "(cons 1 x)"),
    (("head", X), "(head x)"),
    (("tail", X), "(tail x)"),
    (("empty", X), "(empty x)"),
    (("pair", NUM, YES), "(pair 1 true)"),
    (("first", X), "(first x)"),
    (("second", X), "(second x)"),
    (("if", YES, NUM, X), "(if true 1 x)"),
    (("let", "x", NUM, X), "(let x 1 x)"),
    (("fn", "x", "int", X), "(fn x int x)"),
    (("fn", "x", ("pair", "int", "bool"), X), "(fn x (pair int bool) x)"),
    (("rec", "f", "x", "int", ("list", "int"), X), "(rec f x int (list int) x)"),
    (("rec", "f", "x", ("fun", "int", "bool"), "bool", NUM), "(rec f x (fun int bool) bool 1)"),
    (("call", ("name", "f"), X), "(call f x)"),
    (("plus", NUM, X), "(plus 1 x)"),
    (("minus", NUM, X), "(minus 1 x)"),
    (("times", NUM, X), "(times 1 x)"),
    (("over", NUM, X), "(over 1 x)"),
    (("rest", NUM, X), "(rest 1 x)"),
    (("less", NUM, X), "(less 1 x)"),
    (("same", NUM, X), "(same 1 x)"),
    (("and", YES, X), "(and true x)"),
    (("or", YES, X), "(or true x)"),
    (("not", YES), "(not true)"),
]

BARE = [
    (("num", 0), "0"),
    (("num", 1), "1"),
    (("num", -1), "-1"),
    (("num", 10), "10"),
    (("num", -250), "-250"),
    (("num", LEAST), "-9223372036854775808"),
    (("num", GREATEST), "9223372036854775807"),
    (("truth", True), "true"),
    (("truth", False), "false"),
    (("name", "x"), "x"),
    (("name", "a1"), "a1"),
    (("name", "abcdefgh"), "abcdefgh"),
    (("name", "z0123456"), "z0123456"),
]

# Parts within parts, so that brackets stand next to brackets and to runs on both sides.
DEEPER = [
    (
        ("let", "f", ("rec", "g", "n", "int", "int", ("if", ("less", ("name", "n"), NUM), ("num", 0),
                      ("call", ("name", "g"), ("minus", ("name", "n"), NUM)))),
         ("call", ("name", "f"), ("num", 5))),
        "(let f (rec g n int int (if (less n 1) 0 (call g (minus n 1)))) (call f 5))",
    ),
    (
        ("cons", ("pair", ("num", -3), ("nil", ("fun", "int", ("list", "bool")))), ("nil", ("pair", "int", "int"))),
        "(cons (pair -3 (nil (fun int (list bool)))) (nil (pair int int)))",
    ),
    (
        ("fn", "p", ("pair", ("list", "int"), "bool"), ("and", ("second", ("name", "p")),
         ("not", ("empty", ("first", ("name", "p")))))),
        "(fn p (pair (list int) bool) (and (second p) (not (empty (first p)))))",
    ),
]

EVERY = PARTS + BARE + DEEPER

PART_WORDS = []
for sample in PARTS:
    if sample[0][0] not in PART_WORDS:
        PART_WORDS.append(sample[0][0])

WORDS = PART_WORDS + [word for word in KIND_WORDS if word not in PART_WORDS] + BARE_WORDS


def pieces(text):
    """The brackets and runs of a sound text, with their places."""
    found = []
    place = 0
    while place < len(text):
        end = place + 1
        if text[place] not in " \n()":
            while end < len(text) and text[end] not in " \n()":
                end += 1
        if text[place] not in " \n":
            found.append((text[place:end], place))
        place = end
    return found
