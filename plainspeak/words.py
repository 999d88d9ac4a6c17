"""The words of parts and kinds: what stands behind each of them, and which runs are names and numbers."""

LETTERS = "abcdefghijklmnopqrstuvwxyz"
FIGURES = "0123456789"

LEAST_NUMBER = -9223372036854775808
GREATEST_NUMBER = 9223372036854775807
MOST_FIGURES = 19
LONGEST_NAME = 8

# What stands behind a word in its part's tuple, and so in its brackets.
PART_SLOTS = {
    "nil": ("kind",),
    "cons": ("part", "part"),
    "head": ("part",),
    "tail": ("part",),
    "empty": ("part",),
    "pair": ("part", "part"),
    "first": ("part",),
    "second": ("part",),
    "if": ("part", "part", "part"),
    "let": ("name", "part", "part"),
    "fn": ("name", "kind", "part"),
    "rec": ("name", "name", "kind", "kind", "part"),
    "call": ("part", "part"),
    "plus": ("part", "part"),
    "minus": ("part", "part"),
    "times": ("part", "part"),
    "over": ("part", "part"),
    "rest": ("part", "part"),
    "less": ("part", "part"),
    "same": ("part", "part"),
    "and": ("part", "part"),
    "or": ("part", "part"),
    "not": ("part",),
}

# How many kinds stand behind a kind's word.
KIND_SIZES = {"list": 1, "pair": 2, "fun": 2}

BARE_KINDS = ("int", "bool")

TRUTHS = {"true": True, "false": False}

# These parts have texts without brackets; their words stand in no text, yet no name may be one of them.
BARE_PARTS = ("num", "truth", "name")


# What stands in a part's slots of one sort, "part", "name" or "kind", from the left.
def values_behind(part, sort):
    slots = PART_SLOTS.get(part[0], ())
    return [value for slot, value in zip(slots, part[1:]) if slot == sort]


def is_word(run):
    return run in PART_SLOTS or run in KIND_SIZES or run in BARE_KINDS or run in TRUTHS or run in BARE_PARTS


def is_name(run):
    if run == "" or len(run) > LONGEST_NAME or run[0] not in LETTERS or is_word(run):
        return False
    return all([sign in LETTERS or sign in FIGURES for sign in run])


def is_number(run):
    figures = run[1:] if run.startswith("-") else run
    if figures == "" or len(figures) > MOST_FIGURES:
        return False
    if not all([sign in FIGURES for sign in figures]):
        return False
    return LEAST_NUMBER <= int(run) <= GREATEST_NUMBER
