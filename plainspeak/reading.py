"""Texts of parts: read tells the part that a text writes, written tells a part's text."""

from plainspeak.errors import BadText
from plainspeak.kinds import kind_text
from plainspeak.words import BARE_KINDS, KIND_SIZES, PART_SLOTS, TRUTHS, is_name, is_number

LONGEST_TEXT = 2000
DEEPEST_PART = 30
DEEPEST_KIND = 8

WHITE_SIGNS = " \n"
RUN_SIGNS = "abcdefghijklmnopqrstuvwxyz0123456789-"


class Pieces:
    # Every refusal tells where a piece stands, so the place of the last one taken is kept.
    def __init__(self, text):
        self.text = text
        self.place = 0
        self.behind = 0

    # At the text's end this is the empty text, which stands nowhere else: nothing is taken for it by mistake.
    def take(self):
        self.place = piece_start(self.text, self.behind)
        self.behind = piece_end(self.text, self.place)
        return self.text[self.place:self.behind]


def piece_start(text, place):
    start = place
    while start < len(text) and text[start] in WHITE_SIGNS:
        start += 1
    return start


def piece_end(text, start):
    end = start
    while end < len(text) and text[end] in RUN_SIGNS:
        end += 1
    # A sign that is none of a run is a piece of its own, be it a bracket or a wrong sign.
    return end if end > start else min(start + 1, len(text))


def read(text):
    if len(text) > LONGEST_TEXT:
        raise BadText("the text is too long", LONGEST_TEXT)
    pieces = Pieces(text)
    part = read_part(pieces, 0)
    if pieces.take() != "":
        raise BadText("the text goes on behind its part", pieces.place)
    return part


def read_part(pieces, depth):
    piece = pieces.take()
    if piece == "(":
        return read_part_brackets(pieces, depth + 1)
    if piece in TRUTHS:
        return ("truth", TRUTHS[piece])
    if is_number(piece):
        return ("num", int(piece))
    if is_name(piece):
        return ("name", piece)
    raise BadText("a part is asked for here", pieces.place)


def read_part_brackets(pieces, depth):
    word = pieces.take()
    # A bracket that opens too deep is told by the place of what stands behind it, so it is looked at only now.
    if depth > DEEPEST_PART or word not in PART_SLOTS:
        raise BadText("a part's word is asked for here, not too deep in brackets", pieces.place)
    found = [word]
    for slot in PART_SLOTS[word]:
        found.append(read_slot(pieces, slot, depth))
    close_brackets(pieces)
    return tuple(found)


def read_slot(pieces, slot, depth):
    if slot == "name":
        return read_name(pieces)
    if slot == "kind":
        # A kind's brackets count for the kind alone.
        return read_kind(pieces, 0)
    return read_part(pieces, depth)


def read_name(pieces):
    piece = pieces.take()
    if not is_name(piece):
        raise BadText("a name is asked for here", pieces.place)
    return piece


def read_kind(pieces, depth):
    piece = pieces.take()
    if piece == "(":
        return read_kind_brackets(pieces, depth + 1)
    if piece not in BARE_KINDS:
        raise BadText("a kind is asked for here", pieces.place)
    return piece


def read_kind_brackets(pieces, depth):
    word = pieces.take()
    if depth > DEEPEST_KIND or word not in KIND_SIZES:
        raise BadText("a kind's word is asked for here, not too deep in brackets", pieces.place)
    found = [word]
    while len(found) <= KIND_SIZES[word]:
        found.append(read_kind(pieces, depth))
    close_brackets(pieces)
    return tuple(found)


def close_brackets(pieces):
    if pieces.take() != ")":
        raise BadText("a closing bracket is asked for here", pieces.place)


def written(part):
    word = part[0]
    if word == "num":
        return str(part[1])
    if word == "truth":
        return "true" if part[1] else "false"
    if word == "name":
        return part[1]
    texts = [word]
    for slot, value in zip(PART_SLOTS[word], part[1:]):
        texts.append(slot_text(slot, value))
    inside = " ".join(texts)
    return f"({inside})"


def slot_text(slot, value):
    if slot == "name":
        return value
    if slot == "kind":
        return kind_text(value)
    return written(value)
