"""[11] and [12]: which texts are read, and to which parts."""

import unittest

from plainspeak.errors import BadText
from plainspeak.reading import read
from samples import EVERY, GREATEST, LEAST, PARTS, WORDS, pieces


def nots(depth, inner="true"):
    return "(not " * depth + inner + ")" * depth


def lists(depth, inner="int"):
    return "(list " * depth + inner + ")" * depth


class ReadingCase(unittest.TestCase):
    def reads(self, text, part):
        """Told by repr, for True and 1 are equal, and a list is no tuple."""
        with self.subTest(text=text[:80]):
            self.assertEqual(repr(read(text)), repr(part))

    def refuses(self, text, at):
        with self.subTest(text=text[:80]):
            with self.assertRaises(BadText) as caught:
                read(text)
            self.assertEqual(caught.exception.at, at)


class TestParts(ReadingCase):
    def test_each_part(self):
        for part, text in EVERY:
            self.reads(text, part)

    def test_reading_twice_tells_the_same(self):
        for part, text in EVERY:
            read(text)
            self.reads(text, part)

    def test_names_need_not_be_bound_nor_kinds_fit(self):
        self.reads("(plus x true)", ("plus", ("name", "x"), ("truth", True)))
        self.reads("(let x x x)", ("let", "x", ("name", "x"), ("name", "x")))
        self.reads("(rec f f int bool f)", ("rec", "f", "f", "int", "bool", ("name", "f")))


class TestWhiteSigns(ReadingCase):
    def test_ahead_and_behind(self):
        for part, text in EVERY:
            for white in [" ", "\n", "  ", "\n\n", " \n \n"]:
                self.reads(white + text, part)
                self.reads(text + white, part)
                self.reads(white + text + white, part)

    def test_about_each_bracket_and_more_than_one_between(self):
        for part, text in EVERY:
            for white in [" ", "\n", "  ", "\n ", " \n\n "]:
                self.reads(white.join([piece for piece, place in pieces(text)]), part)

    def test_none_about_brackets(self):
        for part, text in EVERY:
            bare = text.replace(" (", "(").replace(") ", ")")
            self.reads(bare, part)
            self.assertNotIn(" (", bare)
            self.assertNotIn(") ", bare)

    def test_none_about_brackets_by_hand(self):
        one, two, three, four = [("num", number) for number in [1, 2, 3, 4]]
        self.reads("(plus(plus 1 2)(plus 3 4))", ("plus", ("plus", one, two), ("plus", three, four)))
        self.reads("(if(not true)1(plus 2 3))", ("if", ("not", ("truth", True)), one, ("plus", two, three)))
        self.reads("(fn x(list(list int))x)", ("fn", "x", ("list", ("list", "int")), ("name", "x")))
        self.reads("(nil(pair(list int)bool))", ("nil", ("pair", ("list", "int"), "bool")))

    def test_a_line_feed_alone_parts_two_runs(self):
        self.reads("(plus\n1\n2)", ("plus", ("num", 1), ("num", 2)))

    def test_without_any_between_there_is_one_run(self):
        self.refuses("(not(nottrue))", 5)
        self.refuses("(plus 12)", 8)
        self.refuses("(plus1 2)", 1)
        self.refuses("(plus 1-2)", 6)


class TestNumbers(ReadingCase):
    def test_bounds(self):
        self.reads("9223372036854775807", ("num", GREATEST))
        self.reads("-9223372036854775808", ("num", LEAST))
        self.reads("(plus 9223372036854775807 -9223372036854775808)", ("plus", ("num", GREATEST), ("num", LEAST)))

    def test_beyond_the_bounds(self):
        self.refuses("9223372036854775808", 0)
        self.refuses("-9223372036854775809", 0)
        self.refuses("9999999999999999999", 0)
        self.refuses("-9999999999999999999", 0)
        self.refuses("(plus 1 9223372036854775808)", 8)

    def test_noughts_ahead(self):
        self.reads("0", ("num", 0))
        self.reads("00", ("num", 0))
        self.reads("007", ("num", 7))
        self.reads("-007", ("num", -7))
        self.reads("-0", ("num", 0))
        self.reads("-000", ("num", 0))
        self.reads("010", ("num", 10))

    def test_nineteen_figures_and_twenty(self):
        self.reads("0" * 19, ("num", 0))
        self.reads("-" + "0" * 19, ("num", 0))
        self.reads("0" * 18 + "5", ("num", 5))
        self.reads("-" + "0" * 18 + "5", ("num", -5))
        self.reads("1" * 19, ("num", 1111111111111111111))
        self.reads("-" + "1" * 19, ("num", -1111111111111111111))
        self.refuses("0" * 20, 0)
        self.refuses("-" + "0" * 20, 0)
        self.refuses("0" * 19 + "5", 0)
        self.refuses("-" + "0" * 19 + "5", 0)
        self.refuses("0" + "9223372036854775807", 0)
        self.refuses("1" * 1999, 0)

    def test_runs_that_are_no_numbers(self):
        for run in ["-", "--", "--1", "1-", "1-2", "-1-", "-a", "1a", "0x1", "-x", "a-", "1e3", "-0-"]:
            self.refuses(run, 0)
            self.refuses("(not " + run + ")", 5)

    def test_signs_that_are_no_figures_to_us(self):
        self.refuses("+1", 0)
        self.refuses("1.5", 1)
        self.refuses("1_000", 1)
        self.refuses("\u0663", 0)
        self.refuses("1\u0663", 1)
        self.refuses("\u00b2", 0)
        self.refuses("\u22121", 0)


class TestNames(ReadingCase):
    def test_lengths(self):
        for length in range(1, 9):
            name = "abcdefgh"[:length]
            self.reads(name, ("name", name))
        self.refuses("abcdefghi", 0)
        self.refuses("a23456789", 0)
        self.reads("a2345678", ("name", "a2345678"))

    def test_each_letter_and_figure(self):
        for letter in "abcdefghijklmnopqrstuvwxyz":
            self.reads(letter, ("name", letter))
            self.reads("q" + letter + "9", ("name", "q" + letter + "9"))
        for figure in "0123456789":
            self.reads("a" + figure, ("name", "a" + figure))

    def test_lengths_where_a_name_is_bound(self):
        self.reads("(let abcdefgh 1 2)", ("let", "abcdefgh", ("num", 1), ("num", 2)))
        self.refuses("(let abcdefghi 1 2)", 5)
        self.refuses("(fn abcdefghi int 2)", 4)
        self.refuses("(rec abcdefghi x int int 2)", 5)
        self.refuses("(rec f abcdefghi int int 2)", 7)

    def test_words_are_no_names(self):
        for word in WORDS:
            self.refuses("(let " + word + " 1 2)", 5)
            self.refuses("(fn " + word + " int 2)", 4)
            self.refuses("(rec " + word + " x int int 2)", 5)
            self.refuses("(rec f " + word + " int int 2)", 7)

    def test_words_are_no_parts(self):
        for word in WORDS:
            if word not in ["true", "false"]:
                self.refuses(word, 0)
                self.refuses("(not " + word + ")", 5)

    def test_names_that_only_begin_like_words(self):
        for name in ["ifs", "lets", "nota", "trues", "ints", "numb", "names", "fn1", "list2", "o", "an", "i"]:
            self.reads(name, ("name", name))
            self.reads("(let " + name + " 1 " + name + ")", ("let", name, ("num", 1), ("name", name)))

    def test_what_is_no_name_where_one_is_asked(self):
        for thing in ["1", "-1", "1a", "a-b", "-", "(", ")", "A", "_a", "\u00e9"]:
            self.refuses("(let " + thing + " 1 2)", 5)
            self.refuses("(fn " + thing + " int 2)", 4)
            self.refuses("(rec f " + thing + " int int 2)", 7)


class TestDepths(ReadingCase):
    def test_thirty_deep(self):
        for depth in [1, 2, 29, 30]:
            part = ("truth", True)
            for _ in range(depth):
                part = ("not", part)
            self.reads(nots(depth), part)

    def test_thirty_one_deep(self):
        self.refuses(nots(31), 5 * 30 + 1)
        self.refuses(nots(40), 5 * 30 + 1)
        self.refuses(nots(200), 5 * 30 + 1)

    def test_thirty_deep_twice_side_by_side(self):
        part = ("truth", True)
        for _ in range(29):
            part = ("not", part)
        self.reads("(and " + nots(29) + " " + nots(29) + ")", ("and", part, part))
        text = "(and " + nots(29) + " " + nots(30) + ")"
        self.refuses(text, text.rfind("(not") + 1)

    def test_each_word_at_thirty_and_thirty_one(self):
        for part, text in PARTS:
            whole = part
            for _ in range(29):
                whole = ("not", whole)
            self.reads(nots(29, text), whole)
            self.refuses(nots(30, text), 5 * 30 + 1)

    def test_each_place_of_a_part_counts(self):
        for ahead, behind in [("(if ", " 1 2)"), ("(if true ", " 2)"), ("(if true 1 ", ")"), ("(let x ", " 1)"),
                              ("(let x 1 ", ")"), ("(fn x int ", ")"), ("(rec f x int int ", ")"), ("(cons 1 ", ")")]:
            read(ahead * 30 + "x" + behind * 30)
            self.refuses(ahead * 31 + "x" + behind * 31, len(ahead) * 30 + 1)

    def test_kinds_eight_deep(self):
        for depth in [1, 7, 8]:
            kind = "int"
            for _ in range(depth):
                kind = ("list", kind)
            self.reads("(nil " + lists(depth) + ")", ("nil", kind))
            self.reads("(fn x " + lists(depth) + " x)", ("fn", "x", kind, ("name", "x")))

    def test_kinds_nine_deep(self):
        self.refuses("(nil " + lists(9) + ")", 5 + 6 * 8 + 1)
        self.refuses("(fn x " + lists(9) + " x)", 6 + 6 * 8 + 1)
        self.refuses("(rec f x " + lists(9) + " int x)", 9 + 6 * 8 + 1)
        self.refuses("(rec f x int " + lists(9) + " x)", 13 + 6 * 8 + 1)

    def test_each_place_of_a_kind_counts(self):
        for ahead, behind in [("(pair ", " int)"), ("(pair int ", ")"), ("(fun ", " bool)"), ("(fun bool ", ")")]:
            read("(nil " + ahead * 8 + "int" + behind * 8 + ")")
            self.refuses("(nil " + ahead * 9 + "int" + behind * 9 + ")", 5 + len(ahead) * 8 + 1)

    def test_kinds_side_by_side_each_eight_deep(self):
        read("(rec f x " + lists(8) + " " + lists(8) + " x)")
        read("(nil (pair " + lists(7) + " " + lists(7) + "))")
        text = "(nil (pair " + lists(7) + " " + lists(8) + "))"
        self.refuses(text, text.rfind("(list") + 1)

    def test_brackets_of_kinds_count_for_kinds_alone(self):
        kind, part = "int", None
        for _ in range(8):
            kind = ("list", kind)
        part = ("nil", kind)
        for _ in range(29):
            part = ("not", part)
        self.reads(nots(29, "(nil " + lists(8) + ")"), part)
        self.refuses(nots(29, "(nil " + lists(9) + ")"), 5 * 29 + 5 + 6 * 8 + 1)

    def test_a_part_behind_a_kind_counts_only_parts(self):
        text = "(fn x " + lists(8) + " " + nots(29) + ")"
        self.assertEqual(read(text)[0], "fn")
        text = "(fn x " + lists(8) + " " + nots(30) + ")"
        self.refuses(text, text.rfind("(not") + 1)


class TestLengths(ReadingCase):
    def test_two_thousand_signs(self):
        self.reads("1" + " " * 1999, ("num", 1))
        self.reads(" " * 1999 + "x", ("name", "x"))
        self.reads("(not" + "\n" * 1991 + "true)", ("not", ("truth", True)))

    def test_two_thousand_and_one(self):
        self.refuses("1" + " " * 2000, 2000)
        self.refuses(" " * 2000 + "x", 2000)
        self.refuses("(not" + "\n" * 1992 + "true)", 2000)

    def test_whatever_they_are(self):
        for sign in [" ", "\n", "$", "(", ")", "1", "a", "-", "\u00e9"]:
            self.refuses(sign * 2001, 2000)
            self.refuses(sign * 5000, 2000)

    def test_up_to_two_thousand_faults_are_told_where_they_stand(self):
        self.refuses("$" + " " * 1999, 0)
        self.refuses(" " * 1999 + "$", 1999)
        self.refuses("1" + " " * 1998 + "2", 1999)
        self.refuses("(not" + " " * 1996, 2000)


if __name__ == "__main__":
    unittest.main()
