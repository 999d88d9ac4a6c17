"""Of [40]: compiled tells a list for a part that fits, and refuses as kind_of does."""

import copy
import itertools
import unittest

from plainspeak.compiling import compiled
from plainspeak.errors import SpeakError
from plainspeak.fitting import kind_of
from plainspeak.reading import read
from samples import BARE, FIT, FITTING, NUM, PARTS, ROUNDS, UNFIT, VALUES, YES, deep_parts, doubled, rounds


def every_part():
    """All parts of which the kinds are tested, those that fit and those that don't."""
    for word, fitting in FITTING.items():
        for keys in itertools.product(VALUES, repeat=len(list(fitting)[0])):
            yield tuple([word] + [read(VALUES[key][0]) for key in keys])
    for text, told in FIT + UNFIT:
        yield read(text)
    for part, text in PARTS + BARE:
        yield part
    for part, kind in deep_parts(70) + deep_parts(90):
        yield part
        yield ("plus", part, YES)
    for begin, kind, levels, lay in ROUNDS:
        yield rounds(70, ("name", "nobody"), levels, lay)
        yield rounds(70, ("plus", YES, NUM), levels, lay)


def outcome(asked, part):
    """The class and the fields of a refusal, or None where nothing is refused."""
    try:
        asked(part)
    except SpeakError as refusal:
        return type(refusal), vars(refusal)
    return None


class TestCompiled(unittest.TestCase):
    def test_refuses_as_kind_of_does(self):
        refused = 0
        for part in every_part():
            with self.subTest(part=str(part)[:200]):
                self.assertEqual(outcome(compiled, part), outcome(kind_of, part))
            refused += outcome(compiled, part) is not None
        self.assertGreater(refused, 300)

    def test_a_list_where_kind_of_tells_a_kind(self):
        told = 0
        for part in every_part():
            if outcome(kind_of, part) is None:
                told += 1
                with self.subTest(part=str(part)[:200]):
                    self.assertIs(type(compiled(part)), list)
        self.assertGreater(told, 100)

    def test_the_part_is_as_it_was(self):
        for text, told in FIT + UNFIT:
            part = read(text)
            before = copy.deepcopy(part)
            outcome(compiled, part)
            self.assertEqual(part, before)

    def test_the_code_is_the_askers_own(self):
        for text, kind in FIT:
            part = read(text)
            code = compiled(part)
            before = copy.deepcopy(code)
            code.clear()
            self.assertEqual(compiled(part), before)

    def test_kinds_that_double(self):
        self.assertIs(type(compiled(("let", "y", ("if", YES, doubled(66, NUM), doubled(66, NUM)), NUM))), list)
        self.assertIsNotNone(outcome(compiled, ("if", YES, doubled(66, NUM), doubled(66, YES))))


if __name__ == "__main__":
    unittest.main()
