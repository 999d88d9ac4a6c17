"""[13]: what read refuses, and at which place."""

import unittest

from plainspeak.errors import BadText
from plainspeak.reading import read
from samples import DEEPER, EVERY, KIND_WORDS, PARTS, PART_WORDS, WORDS, pieces

WRONG_SIGNS = ["$", "\t", "\r", "\x0b", "\x0c", "\x00", "\u00a0", "\u2003", "\u00e9", "\u03b1", "A", "Z", "_", ".", ",",
               "+", "[", "]", "{", "}", ";", "#", "'", '"', "\\", "\u0660", "\U0001f600", "\ud800"]


class RefusingCase(unittest.TestCase):
    def refuses(self, text, at):
        with self.subTest(text=text[:200], length=len(text)):
            with self.assertRaises(BadText) as caught:
                read(text)
            self.assertIs(type(caught.exception), BadText)
            self.assertEqual(caught.exception.at, at)


class TestRuns(RefusingCase):
    def test_by_hand(self):
        for text, at in [
            ("(foo 1)", 1),
            ("(1)", 1),
            ("(x)", 1),
            ("(true)", 1),
            ("(num 5)", 1),
            ("(truth true)", 1),
            ("(name x)", 1),
            ("(int)", 1),
            ("(list int)", 1),
            ("(fun int int)", 1),
            ("( foo 1)", 2),
            ("(\n\n foo 1)", 4),
            ("(plux 1 2)", 1),
            ("(Plus 1 2)", 1),
            ("(pluS 1 2)", 1),
            ("(plus 1 two-three)", 8),
            ("(plus 1 toolongname)", 8),
            ("(plus 1 plus)", 8),
            ("(not int)", 5),
            ("(nil 5)", 5),
            ("(nil x)", 5),
            ("(nil true)", 5),
            ("(nil list)", 5),
            ("(nil pair)", 5),
            ("(nil (int))", 6),
            ("(nil (cons int))", 6),
            ("(nil (nil int))", 6),
            ("(nil (foo int))", 6),
            ("(nil (pair int 3))", 15),
            ("(fn x y x)", 6),
            ("(fn int int x)", 4),
            ("(rec f 7 int int x)", 7),
            ("(rec f x int x)", 13),
            ("(if true 1 2 3)", 13),
            ("(not true false)", 10),
            ("(nil int int)", 9),
            ("(nil (list int bool))", 15),
            ("(nil (pair int bool int))", 20),
            ("(let x 1 2 3)", 11),
        ]:
            self.refuses(text, at)

    def test_behind_a_parts_bracket_stand_parts_words_alone(self):
        for word in WORDS + ["x", "1", "-", "a-b", "abcdefghi"]:
            if word not in PART_WORDS:
                self.refuses("(" + word + " 1 2)", 1)
                self.refuses("(not (" + word + " 1 2))", 6)

    def test_behind_a_kinds_bracket_stand_kinds_words_alone(self):
        for word in WORDS + ["x", "1", "-"]:
            if word not in KIND_WORDS:
                self.refuses("(nil (" + word + " int int))", 6)
                self.refuses("(fn x (list (" + word + " int)) x)", 13)

    def test_where_a_kind_is_asked(self):
        for run in WORDS + ["x", "1", "-", "intt"]:
            if run not in ["int", "bool"]:
                self.refuses("(nil " + run + ")", 5)
                self.refuses("(rec f x int " + run + " 1)", 13)
                self.refuses("(nil (pair int " + run + "))", 15)

    def test_the_place_is_the_runs_first_sign(self):
        self.refuses("(plus 1 abc-def)", 8)
        self.refuses("(plus 1   9x)", 10)
        self.refuses("   12345678901234567890", 3)

    def test_of_two_faults_the_left_one(self):
        self.refuses("(foo $ 1)", 1)
        self.refuses("(plus $ foo-)", 6)
        self.refuses("(plus 1 int) $", 8)
        self.refuses("1 $ 2", 2)


class TestSigns(RefusingCase):
    def test_alone(self):
        for sign in WRONG_SIGNS:
            self.refuses(sign, 0)
            self.refuses(" \n" + sign, 2)

    def test_ahead_of_each_piece_and_behind_the_last(self):
        for part, text in PARTS + DEEPER:
            for sign in WRONG_SIGNS:
                for piece, place in pieces(text):
                    self.refuses(text[:place] + sign + text[place:], place)
                    self.refuses(text[:place] + sign + " " + text[place:], place)
                self.refuses(text + sign, len(text))
                self.refuses(text + " " + sign, len(text) + 1)

    def test_right_behind_a_run(self):
        self.refuses("foo$", 3)
        self.refuses("fOo", 1)
        self.refuses("12$", 2)
        self.refuses("(plus$ 1 2)", 5)
        self.refuses("(plus 1$ 2)", 7)
        self.refuses("(nil int$)", 8)
        self.refuses("true$", 4)
        self.refuses("(let x$ 1 2)", 6)

    def test_a_run_that_is_wrong_by_itself_comes_first(self):
        self.refuses("plus$", 0)
        self.refuses("(plu$s 1 2)", 1)
        self.refuses("a-$", 0)

    def test_white_signs_are_blanks_and_line_feeds_alone(self):
        self.refuses("(plus\t1 2)", 5)
        self.refuses("(plus 1 2)\r\n", 10)
        self.refuses("\ufeff1", 0)


class TestBrackets(RefusingCase):
    def test_by_hand(self):
        for text, at in [
            (")", 0),
            (" )", 1),
            ("()", 1),
            ("( )", 2),
            ("((", 1),
            ("((not true))", 1),
            ("(not)", 4),
            ("(not )", 5),
            ("(plus 1)", 7),
            ("(plus 1 )", 8),
            ("(plus)", 5),
            ("(if true 1)", 10),
            ("(nil)", 4),
            ("(nil ())", 6),
            ("(nil ((list int)))", 6),
            ("(nil (list))", 10),
            ("(nil (pair int))", 14),
            ("(nil (pair int )", 15),
            ("(nil int (", 9),
            ("(nil (list int (", 15),
            ("(let)", 4),
            ("(let x)", 6),
            ("(let (x) 1 2)", 5),
            ("(fn (x) int x)", 4),
            ("(fn x)", 5),
            ("(fn x int)", 9),
            ("(rec (f) x int int 1)", 5),
            ("(rec f (x) int int 1)", 7),
            ("(rec f x int int)", 16),
            ("(not true(", 9),
            ("(plus 1 2 (plus 3 4))", 10),
            ("(plus 1 2(", 9),
        ]:
            self.refuses(text, at)

    def test_closed_ahead_of_each_piece_that_is_asked_for(self):
        for part, text in PARTS + DEEPER:
            for piece, place in pieces(text)[1:]:
                if piece != ")":
                    self.refuses(text[:place] + ")", place)
                    self.refuses(text[:place] + ") " + text[place:], place)

    def test_each_part_with_one_more_in_it(self):
        for part, text in PARTS:
            for more in ["1", "x", "(", "(not true)", "int", "$"]:
                self.refuses(text[:-1] + " " + more + ")", len(text))


class TestEndsTooEarly(RefusingCase):
    def test_empty_and_white(self):
        self.refuses("", 0)
        for length in [1, 2, 17, 1999, 2000]:
            self.refuses(" " * length, length)
            self.refuses("\n" * length, length)
        self.refuses(" \n \n\n", 5)

    def test_behind_each_piece_but_the_last(self):
        for part, text in PARTS + DEEPER:
            found = pieces(text)
            for piece, place in found[:-1]:
                cut = text[:place + len(piece)]
                self.refuses(cut, len(cut))
                self.refuses(cut + " ", len(cut) + 1)
                self.refuses(cut + "\n \n", len(cut) + 3)
                self.refuses("  " + cut, len(cut) + 2)

    def test_a_cut_word_is_a_wrong_run(self):
        self.refuses("(plu", 1)
        self.refuses("(nil in", 5)


class TestGoesOn(RefusingCase):
    def test_behind_each_part(self):
        for part, text in EVERY:
            for more in ["1", "x", "true", "plus", "(", "(not true)", ")", "-", "$"]:
                self.refuses(text + " " + more, len(text) + 1)
                self.refuses(text + "\n\n " + more, len(text) + 3)

    def test_right_behind(self):
        for part, text in PARTS:
            for more in ["1", "x", "(", ")", "(not true)", text, "$"]:
                self.refuses(text + more, len(text))
        self.refuses("x(", 1)
        self.refuses("1)", 1)


class TestTooDeep(RefusingCase):
    def setUp(self):
        self.part_ahead = "(not " * 30
        self.kind_ahead = "(nil " + "(list " * 8

    def test_with_a_word_that_could_stand_there(self):
        for word in PART_WORDS:
            self.refuses(self.part_ahead + "(" + word + " true)" + ")" * 30, len(self.part_ahead) + 1)
        for word in KIND_WORDS:
            self.refuses(self.kind_ahead + "(" + word + " int)" + ")" * 9, len(self.kind_ahead) + 1)

    def test_with_a_run_that_could_not(self):
        for run in ["foo", "int", "list", "true", "1", "-", "toolongname"]:
            self.refuses(self.part_ahead + "(" + run + " true)", len(self.part_ahead) + 1)
        for run in ["foo", "int", "cons", "true", "1", "-", "toolongname"]:
            self.refuses(self.kind_ahead + "(" + run + " int)", len(self.kind_ahead) + 1)

    def test_behind_white_signs(self):
        for white in [" ", "\n", "   ", " \n "]:
            for run in ["not", "list", "foo"]:
                for ahead in [self.part_ahead, self.kind_ahead]:
                    self.refuses(ahead + "(" + white + run + " int)", len(ahead) + 1 + len(white))

    def test_with_a_sign_that_is_none_of_a_run(self):
        for ahead in [self.part_ahead, self.kind_ahead]:
            for sign in ["(", ")", "$", "\t"]:
                self.refuses(ahead + "(" + sign + "not true)", len(ahead) + 1)
                self.refuses(ahead + "( \n" + sign + "not true)", len(ahead) + 3)

    def test_with_nothing_behind(self):
        for ahead in [self.part_ahead, self.kind_ahead]:
            self.refuses(ahead + "(", len(ahead) + 1)
            self.refuses(ahead + "( \n ", len(ahead) + 4)

    def test_a_fault_to_its_left_comes_first(self):
        self.refuses("(not " * 29 + "(foo (not true", 5 * 29 + 1)
        self.refuses("(not " * 29 + "(not $ (not true", 5 * 30)

    def test_where_no_bracket_may_stand_the_depth_is_nothing_to_it(self):
        ahead = "(not " * 29
        self.refuses(ahead + "(let (not", len(ahead) + 5)
        self.refuses(ahead + "(not true (not", len(ahead) + 10)
        self.refuses(ahead + "((not", len(ahead) + 1)


if __name__ == "__main__":
    unittest.main()
