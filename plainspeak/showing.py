"""Showing: the text of a value whose things lie in a heap."""

from plainspeak.errors import TooLong
from plainspeak.heap import EMPTY, is_reference

LONGEST_SHOWN = 1000


# A value may hold one thing many times over, so that its text would be longer than anything can hold: it is written
# from the left and given up as soon as it is too long. A list of pieces to go on with, not calls within calls, for
# things may lie within one another as deep as the room is large.
def value_text(heap, value):
    texts = []
    left = LONGEST_SHOWN
    waiting = [("value", value)]
    while waiting:
        piece = waiting.pop()
        if piece[0] == "text":
            texts.append(piece[1])
            left -= len(piece[1])
            if left < 0:
                raise TooLong("the value's text is too long")
        else:
            waiting.extend(list(reversed(pieces_of(heap, piece))))
    return "".join(texts)


# Each piece that isn't a text comes to a text and what stands behind it, so that every round makes the text longer.
def pieces_of(heap, piece):
    value = piece[1]
    if piece[0] == "tail":
        return tail_pieces(heap, value)
    if not is_reference(value):
        return [("text", bare_text(value))]
    sort = heap.sort_of(value)
    held = heap.held_by(value)
    if sort == "cell":
        return [("text", "["), ("value", held[0]), ("tail", held[1])]
    if sort == "pair":
        return [("text", "("), ("value", held[0]), ("text", ","), ("value", held[1]), ("text", ")")]
    return [("text", "fn")]


def tail_pieces(heap, tail):
    if tail == EMPTY:
        return [("text", "]")]
    held = heap.held_by(tail)
    return [("text", ","), ("value", held[0]), ("tail", held[1])]


def bare_text(value):
    if value == EMPTY:
        return "[]"
    # For Python truths are numbers too, so they are looked at first.
    if isinstance(value, bool):
        return "true" if value else "false"
    return str(value)
