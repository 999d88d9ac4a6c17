"""Sums: what the words of two numbers make of them."""

from plainspeak.words import LEAST_NUMBER

# How many numbers there are, that is 2 ** 64.
ROUND = 18446744073709551616


def brought_in(number):
    return (number - LEAST_NUMBER) % ROUND + LEAST_NUMBER


def plus(one, other):
    return brought_in(one + other)


def minus(one, other):
    return brought_in(one - other)


def times(one, other):
    return brought_in(one * other)


# Python's own division cuts downward, so the signs are kept out of it here and in rest.
def over(one, other):
    cut = abs(one) // abs(other)
    # The least number over -1 lies outside of the numbers.
    return brought_in(cut if (one < 0) == (other < 0) else -cut)


def rest(one, other):
    left = abs(one) % abs(other)
    return -left if one < 0 else left


def less(one, other):
    return one < other


def same(one, other):
    return one == other


SUMS = {"plus": plus, "minus": minus, "times": times, "over": over, "rest": rest, "less": less, "same": same}


def is_by_nought(word, other):
    return word in ("over", "rest") and other == 0


def sum_of(word, one, other):
    return SUMS[word](one, other)
