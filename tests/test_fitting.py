"""[20] and [21]: the kinds of parts, and the refusal of those that don't fit."""

import copy
import itertools
import unittest

from plainspeak.errors import NoName, Unfit
from plainspeak.fitting import kind_of
from plainspeak.reading import read
from samples import (
    BARE, FIT, FITTING, INTS, NUM, PARTS, PART_WORDS, ROUNDS, UNFIT, VALUES, X, YES, deep_parts, doubled, rounds,
)


class FittingCase(unittest.TestCase):
    def fits(self, part, kind):
        with self.subTest(part=str(part)[:200]):
            self.assertEqual(kind_of(part), kind)

    def refuses(self, part, name=None):
        with self.subTest(part=str(part)[:200]):
            with self.assertRaises(Unfit if name is None else NoName) as caught:
                kind_of(part)
            self.assertIs(type(caught.exception), Unfit if name is None else NoName)
            if name is not None:
                self.assertEqual(caught.exception.name, name)
                self.assertIs(type(caught.exception.name), str)


class TestEachWord(FittingCase):
    def test_what_fits_behind_it_and_nothing_else(self):
        for word, fitting in FITTING.items():
            for keys in itertools.product(VALUES, repeat=len(list(fitting)[0])):
                part = tuple([word] + [read(VALUES[key][0]) for key in keys])
                if keys in fitting:
                    self.fits(part, VALUES[fitting[keys]][1])
                else:
                    self.refuses(part)

    def test_a_pair_fits_of_all(self):
        for first, second in itertools.product(VALUES.values(), repeat=2):
            self.fits(("pair", read(first[0]), read(second[0])), ("pair", first[1], second[1]))

    def test_a_let_fits_of_all(self):
        for first, second in itertools.product(VALUES.values(), repeat=2):
            self.fits(("let", "x", read(first[0]), read(second[0])), second[1])
            self.fits(("let", "x", read(first[0]), X), first[1])

    def test_a_fn_fits_of_all(self):
        for text, kind in VALUES.values():
            self.fits(("fn", "x", "int", read(text)), ("fun", "int", kind))
            self.fits(("fn", "x", kind, X), ("fun", kind, kind))

    def test_a_rec_fits_if_it_tells_its_second_kind(self):
        for first, second in itertools.product(VALUES.values(), repeat=2):
            part = ("rec", "f", "x", "int", first[1], read(second[0]))
            if first == second:
                self.fits(part, ("fun", "int", first[1]))
            else:
                self.refuses(part)
            self.fits(("rec", "f", "x", first[1], second[1], ("call", ("name", "f"), X)), ("fun", first[1], second[1]))

    def test_a_call_fits_if_it_is_handed_the_first_kind(self):
        for first, second in itertools.product(VALUES.values(), repeat=2):
            part = ("call", ("fn", "x", first[1], X), read(second[0]))
            if first == second:
                self.fits(part, first[1])
            else:
                self.refuses(part)

    def test_nil_is_a_list_of_its_kind(self):
        for text, kind in VALUES.values():
            self.fits(("nil", kind), ("list", kind))

    def test_bare_parts(self):
        for part, text in BARE:
            if part[0] == "name":
                self.refuses(part, part[1])
            else:
                self.fits(part, {"num": "int", "truth": "bool"}[part[0]])

    def test_every_word_is_in_these_tests(self):
        self.assertEqual(set(PART_WORDS), set(FITTING) | {"nil", "pair", "let", "fn", "rec"})


class TestParts(FittingCase):
    def test_what_fits(self):
        for text, kind in FIT:
            self.fits(read(text), kind)

    def test_what_does_not(self):
        for text, name in UNFIT:
            self.refuses(read(text), name)

    def test_a_fault_within_each_part_that_fits(self):
        for text, kind in FIT:
            self.refuses(("pair", read(text), ("name", "nobody")), "nobody")
            self.refuses(("pair", ("not", NUM), read(text)))
            self.refuses(("let", "x", read(text), ("name", "nobody")), "nobody")

    def test_a_name_that_is_bound_around(self):
        for text, name in UNFIT:
            if name is not None:
                with self.assertRaises(NoName):
                    kind_of(("let", "other", NUM, read(text)))

    def test_samples_of_the_texts_with_names_that_nothing_binds(self):
        for part, text in PARTS:
            if part[0] not in ["let", "fn", "rec", "nil", "pair", "not", "call"]:
                self.refuses(part, "x")

    def test_the_same_again_and_nothing_is_changed(self):
        for text, kind in FIT:
            part = read(text)
            before = copy.deepcopy(part)
            self.assertEqual(kind_of(part), kind_of(part))
            self.assertEqual(part, before)
        for text, name in UNFIT:
            part = read(text)
            before = copy.deepcopy(part)
            for _ in range(2):
                self.refuses(part, name)
            self.assertEqual(part, before)

    def test_no_name_outlives_its_part(self):
        self.fits(("let", "x", NUM, X), "int")
        self.refuses(X, "x")
        self.fits(("rec", "f", "x", "int", "int", X), ("fun", "int", "int"))
        self.refuses(("name", "f"), "f")


class TestDeep(FittingCase):
    def test_of_each_word(self):
        for depth in [69, 70, 71, 90]:
            for part, kind in deep_parts(depth):
                self.fits(part, kind)

    def test_a_fault_at_the_bottom(self):
        for begin, kind, levels, lay in ROUNDS:
            self.refuses(rounds(70, ("name", "nobody"), levels, lay), "nobody")
            self.refuses(rounds(70, ("plus", YES, NUM), levels, lay))

    def test_a_fault_at_the_top(self):
        for part, kind in deep_parts(69):
            self.refuses(("plus", part, YES))
            self.refuses(("plus", part, ("name", "nobody")), "nobody")

    def test_kinds_of_forty(self):
        for lay in [lambda kind: ("list", kind), lambda kind: ("pair", "bool", kind), lambda kind: ("pair", kind, "bool"),
                    lambda kind: ("fun", "bool", kind), lambda kind: ("fun", kind, "bool")]:
            kind = rounds(41, "int", 1, lay)
            other = rounds(41, "bool", 1, lay)
            self.fits(("nil", kind), ("list", kind))
            self.fits(("call", ("fn", "x", kind, X), ("head", ("nil", kind))), kind)
            self.refuses(("call", ("fn", "x", kind, X), ("head", ("nil", other))))

    def test_many_beside_one_another(self):
        part = INTS
        for _ in range(60):
            part = ("cons", rounds(60, NUM, 1, lambda inner: ("plus", inner, NUM)), part)
        self.fits(part, ("list", "int"))


class TestKindsThatDouble(FittingCase):
    """Kinds that would be far too long to be gone through whole."""

    def test_told(self):
        kind = kind_of(doubled(66, NUM))
        for _ in range(66):
            self.assertEqual((kind[0], len(kind)), ("pair", 3))
            kind = kind[2]
        self.assertEqual(kind, "int")

    def test_the_same_from_two_sides(self):
        both = ("if", YES, doubled(66, NUM), doubled(66, NUM))
        self.fits(("let", "y", both, NUM), "int")

    def test_the_same_with_functions_between(self):
        part = X
        for _ in range(33):
            part = ("let", "x", ("fn", "y", "int", X), ("let", "x", ("pair", X, X), part))
        part = ("let", "x", NUM, part)
        self.fits(("let", "y", ("if", YES, part, part), NUM), "int")

    def test_others_from_two_sides(self):
        self.refuses(("if", YES, doubled(66, NUM), doubled(66, YES)))
        self.refuses(("if", YES, doubled(66, NUM), doubled(65, NUM)))


if __name__ == "__main__":
    unittest.main()
