"""Kinds that fit: kind_of tells a part's kind, or refuses the first part in it that doesn't fit."""

from plainspeak.errors import Unfit
from plainspeak.naming import looked_up, with_name
from plainspeak.words import values_behind

# The kinds that the parts behind a word must have, and behind them the kind that it tells.
FIXED_KINDS = {
    "num": ("int",),
    "truth": ("bool",),
    "plus": ("int", "int", "int"),
    "minus": ("int", "int", "int"),
    "times": ("int", "int", "int"),
    "over": ("int", "int", "int"),
    "rest": ("int", "int", "int"),
    "less": ("int", "int", "bool"),
    "same": ("int", "int", "bool"),
    "and": ("bool", "bool", "bool"),
    "or": ("bool", "bool", "bool"),
    "not": ("bool", "bool"),
}


def kind_of(part):
    return fitted(part, {}, [])


def require(holds):
    if not holds:
        raise Unfit("these kinds don't fit")


def require_word(kind, word):
    require(isinstance(kind, tuple) and kind[0] == word)


def cons_kind(kinds):
    require(kinds[1] == ("list", kinds[0]))
    return kinds[1]


def head_kind(kinds):
    require_word(kinds[0], "list")
    return kinds[0][1]


def tail_kind(kinds):
    require_word(kinds[0], "list")
    return kinds[0]


def empty_kind(kinds):
    require_word(kinds[0], "list")
    return "bool"


def first_kind(kinds):
    require_word(kinds[0], "pair")
    return kinds[0][1]


def second_kind(kinds):
    require_word(kinds[0], "pair")
    return kinds[0][2]


def if_kind(kinds):
    require(kinds[0] == "bool" and kinds[1] == kinds[2])
    return kinds[1]


def call_kind(kinds):
    require_word(kinds[0], "fun")
    require(kinds[0][1] == kinds[1])
    return kinds[0][2]


# What a word makes of the kinds of the parts behind it, where that depends on them.
KIND_RULES = {
    "cons": cons_kind,
    "head": head_kind,
    "tail": tail_kind,
    "empty": empty_kind,
    "first": first_kind,
    "second": second_kind,
    "if": if_kind,
    "call": call_kind,
}


def let_kind(part, scope, pairs):
    bound = fitted(part[2], scope, pairs)
    return fitted(part[3], with_name(scope, part[1], bound), pairs)


def fn_kind(part, scope, pairs):
    told = fitted(part[3], with_name(scope, part[1], part[2]), pairs)
    return ("fun", part[2], told)


def rec_kind(part, scope, pairs):
    kind = ("fun", part[3], part[4])
    knowing_itself = with_name(scope, part[1], kind)
    told = fitted(part[5], with_name(knowing_itself, part[2], part[3]), pairs)
    require(told == part[4])
    return kind


# These bind names, so that the parts in them are not all in the same scope.
BINDING_RULES = {"let": let_kind, "fn": fn_kind, "rec": rec_kind}


# A name that is paired with itself, time and again, has a kind that is far larger than its part. Equal kinds of pairs
# are one and the same tuple here, for Python sees at once that such are equal, and else would go through all of both.
def pair_kind(kinds, pairs):
    kind = ("pair", kinds[0], kinds[1])
    if kind in pairs:
        return pairs[pairs.index(kind)]
    pairs.append(kind)
    return kind


def fitted(part, scope, pairs):
    word = part[0]
    if word == "name":
        return looked_up(scope, part[1])
    if word == "nil":
        return ("list", part[1])
    if word in BINDING_RULES:
        return BINDING_RULES[word](part, scope, pairs)
    kinds = [fitted(inner, scope, pairs) for inner in values_behind(part, "part")]
    if word == "pair":
        return pair_kind(kinds, pairs)
    if word in KIND_RULES:
        return KIND_RULES[word](kinds)
    fixed = list(FIXED_KINDS[word])
    told = fixed.pop()
    require(kinds == fixed)
    return told
