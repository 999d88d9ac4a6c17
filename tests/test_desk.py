"""[50]: the rows of the desk, their answers, and which refusal is due first."""

import itertools
import unittest

from plainspeak.desk import play
from plainspeak.kinds import kind_text
from samples import BUILD, FIT, LOOP, RUNS, SPIN, SUM, TRAP, UNFIT, UPTO, machine_of

WORDS_WITH_COUNT = ["room", "go"]
WORDS_WITH_TEXT = ["kind", "begin", "run"]
WORDS_ALONE = ["move", "show", "made", "used"]

# A list that needs just half of the first room: its cells, the function and two pairs.
HALF = f"(call {BUILD} (pair 197 (nil int)))"
HALF_SHOWN = "[" + ",".join(str(number) for number in range(1, 198)) + "]"
# A list of 60 numbers of 19 figures.
LONG = "(call (rec b p (pair int (list int)) (list int) (if (less (first p) 1) (second p) (call b (pair (minus (first p)" \
       " 1) (cons 9223372036854775807 (second p)))))) (pair 60 (nil int)))"


def answers(*rows):
    return play("\n".join(rows))


def answer(*rows):
    """The answer of the last row."""
    return answers(*rows)[-1]


class TestRows(unittest.TestCase):
    def test_kind(self):
        for text, kind in FIT:
            with self.subTest(text=text):
                self.assertEqual(answers(f"kind {text}"), [kind_text(kind)])

    def test_run(self):
        for text, told in RUNS:
            with self.subTest(text=text):
                self.assertEqual(answers(f"run {text}"), [told])

    def test_begin_go_and_show(self):
        for text, told in RUNS:
            found = answers(f"begin {text}", "go 9999", "go 9999", "go 1", "show")
            with self.subTest(text=text):
                self.assertEqual(found[0], "ok")
                if told in ["by nought", "of empty", "too deep"]:
                    self.assertEqual(found[2:], [told, told, "refused: NotDone"])
                else:
                    self.assertEqual(found[2:], ["done", "done", told])

    def test_go_goes_so_many_steps(self):
        found = answers(f"begin {SPIN}", "go 1", "go 10", "go 9999", "made", "move", "used")
        self.assertEqual(found, ["ok", "running", "running", "running", "1", "1", "1"])
        # A number takes one step at least, so that so many numbers take no fewer.
        text = "(cons 1 " * 20 + "(nil int)" + ")" * 20
        self.assertEqual(answers(f"begin {text}", "go 20", "go 9999", "show"),
                         ["ok", "running", "done", "[" + ",".join(["1"] * 20) + "]"])

    def test_move_made_and_used(self):
        found = answers("begin (let x (pair 1 2) (pair (first x) 3))", "move", "made", "used", "go 9999", "made", "used",
                        "move", "made", "used", "move", "show")
        self.assertEqual(found, ["ok", "0", "0", "0", "done", "2", "2", "1", "2", "1", "1", "(1,3)"])

    def test_move_while_it_runs(self):
        found = answers("begin (let x (cons 1 (nil int)) (plus (over 1 0) (head x)))", "go 9999", "move", "made", "used")
        self.assertEqual(found, ["ok", "by nought", "1", "1", "1"])

    def test_room(self):
        self.assertEqual(answers(f"run {HALF}"), [HALF_SHOWN])
        self.assertEqual(answers(f"run (call {BUILD} (pair 398 (nil int)))"), ["no room"])
        self.assertEqual(answers("room 400", f"run {HALF}"), ["ok", HALF_SHOWN])
        self.assertEqual(answers("room 199", f"run {HALF}"), ["ok", "no room"])
        self.assertEqual(answers("room 8", f"run (call {LOOP} (pair 100 0))"), ["ok", "5050"])
        self.assertEqual(answers("room 8", f"run (call {UPTO} 20)", "room 400", f"run (head (call {UPTO} 20))"),
                         ["ok", "no room", "ok", "20"])
        for room in [8, 9, 10, 99, 100, 399, 400]:
            self.assertEqual(answer(f"room {room}"), "ok")

    def test_room_is_of_machines_made_from_now_on(self):
        begin = f"begin (head (call {UPTO} 20))"
        self.assertEqual(answers(begin, "room 8", "go 9999", "show"), ["ok", "ok", "done", "20"])
        self.assertEqual(answers("room 8", begin, "room 400", "go 9999"), ["ok", "ok", "ok", "no room"])
        self.assertEqual(answers("room 8", begin, "go 9999", "room 400", begin, "go 9999", "show"),
                         ["ok", "ok", "no room", "ok", "ok", "done", "20"])

    def test_begin_anew(self):
        found = answers("begin (pair 1 2)", "go 9999", "begin (plus 3 4)", "made", "show", "go 9999", "show")
        self.assertEqual(found, ["ok", "done", "ok", "0", "refused: NotDone", "done", "7"])

    def test_run_leaves_the_machine_alone(self):
        found = answers("begin (plus 3 4)", "run (pair 1 2)", "made", "show", "go 9999", "run (over 1 0)", "show")
        self.assertEqual(found, ["ok", "(1,2)", "0", "refused: NotDone", "done", "by nought", "7"])
        self.assertEqual(answers("run (pair 1 2)", "show"), ["(1,2)", "refused: NoMachine"])

    def test_run_of_all_ends(self):
        self.assertEqual(answers(f"run {SPIN}", f"run {TRAP}", "run (head (nil int))", f"run (call {SUM} 41)",
                                 f"run (call {BUILD} (pair 500 (nil int)))", "run (fn x int x)"),
                         ["running", "by nought", "of empty", "too deep", "no room", "fn"])

    def test_run_of_long_runs(self):
        # Each round reckons nine parts, so that 200 rounds take fewer than 20000 steps, and 20000 rounds more.
        text = "run (call (rec f n int int (if (less n 1) 7 (call f (minus n 1)))) {})"
        self.assertEqual(answer(text.format(200)), "7")
        self.assertEqual(answer(text.format(20000)), "running")

    def test_run_goes_20000_steps(self):
        def text_of(rounds, turns):
            loop = f"(call (rec f n int bool (if (less n 1) true (call f (minus n 1)))) {rounds})"
            return "(not " * turns + loop + ")" * turns

        def steps_of(text):
            machine = machine_of(text)
            return next(steps for steps in itertools.count(1) if machine.run(1) != "running")

        begin = steps_of(text_of(0, 2))
        rounds = (20000 - begin) // (steps_of(text_of(1, 2)) - begin)
        found = {steps_of(text_of(rounds, turns)): answer("run " + text_of(rounds, turns)) for turns in range(2, 25)}
        self.assertLess(min(found), 20001)
        self.assertGreater(max(found), 20000)
        for steps, told in found.items():
            self.assertEqual(told == "running", steps > 20000, steps)

    def test_one_desk_a_play(self):
        self.assertEqual(answers("begin 1", "room 8"), ["ok", "ok"])
        self.assertEqual(answers("show"), ["refused: NoMachine"])
        self.assertEqual(answers(f"run {HALF}"), [HALF_SHOWN])


class TestPassedOver(unittest.TestCase):
    def test_rows_of_blanks_and_of_nothing(self):
        for text in ["", " ", "   ", "\n", "\n\n\n", " \n  \n", "\n "]:
            self.assertEqual(play(text), [])
        self.assertEqual(play("\n\nrun 1\n  \n\nrun 2\n"), ["1", "2"])

    def test_other_white_signs_are_no_blanks(self):
        for row in ["\t", "\r", "\x0b", "\x0c", "\u00a0", "\u2028", " \t", "\x1c", "\x85"]:
            with self.subTest(row=row):
                self.assertEqual(play(row), ["refused: BadRow"])

    def test_rows_are_parted_by_line_feeds_alone(self):
        for sign in ["\r", "\x0b", "\x0c", "\u2028", "\x85", "\x1d"]:
            with self.subTest(sign=sign):
                self.assertEqual(play(f"run 1{sign}run 2"), ["refused: BadText 1"])
        self.assertEqual(play("run 1\r\nrun 2"), ["refused: BadText 1", "2"])
        self.assertEqual(play("move\r\n"), ["refused: BadRow"])

    def test_an_answer_list_of_ones_own(self):
        first = play("run 1")
        first.append("more")
        self.assertEqual(play("run 1"), ["1"])


class TestBadRows(unittest.TestCase):
    def check(self, *rows):
        """These are bad rows, with a machine and without."""
        for row in rows:
            with self.subTest(row=row):
                self.assertEqual(play(row), ["refused: BadRow"])
                self.assertEqual(answers("begin 1", row), ["ok", "refused: BadRow"])

    def test_other_words(self):
        self.check("x", "halt", "1", "(plus 1 2)", "runs 1", "ru 1", "kinds 1", "Run 1", "RUN 1", "moves", "mad", "ok",
                   "refused", "collect", "shown", "kind(plus 1 2)", "run(plus 1 2)", "go1", "room8", "run\t1", "room\t8",
                   "move\tshow", "read 1", "-", "#")

    def test_a_blank_ahead(self):
        self.check(" run 1", "  move", " room 8", " go 1", " kind 1", " begin 1", " show", " made", " used")

    def test_words_with_nothing_behind_them(self):
        self.check(*(WORDS_WITH_COUNT + WORDS_WITH_TEXT))
        self.check("room ", "go ", "room  ", "go  ")

    def test_words_with_too_much_behind_them(self):
        for word in WORDS_ALONE:
            self.check(f"{word} ", f"{word}  ", f"{word} 1", f"{word} {word}", f"{word} (plus 1 2)", f"{word}\t")

    def test_counts(self):
        for count in ["0", "00", "08", "010", "0100", "10000", "12345", "99999", "-1", "-8", "+8", "8.", "8.0", "1e2",
                      "a", "8a", "a8", "0x8", "1_0", "(8)", "true", "8,", "\u0661", "\u00b2", "\uff11\uff10"]:
            self.check(f"room {count}", f"go {count}")

    def test_blanks_about_counts(self):
        for count in [" 8", "  8", "8 ", "8  ", " 8 ", "1 0", "10 0", "8\t", "\t8", "8\r", "8 8"]:
            self.check(f"room {count}", f"go {count}")

    def test_rooms_out_of_their_bounds(self):
        self.check("room 1", "room 7", "room 401", "room 999", "room 1000", "room 9999")

    def test_bounds_of_counts(self):
        self.assertEqual(answers("begin 1", "go 1"), ["ok", "done"])
        self.assertEqual(answers(f"begin {SPIN}", "go 9999", "go 1000", "go 100"), ["ok", "running", "running", "running"])
        self.assertEqual(answers("room 8", "room 400"), ["ok", "ok"])


class TestRefusals(unittest.TestCase):
    def test_bad_texts(self):
        for text, at in [
            ("(plus 1", 7), ("(plus 1 plus)", 8), ("1 2", 2), (")", 0), ("$", 0), ("(nil)", 4), (" (", 2), ("", 0),
            (" ", 1), ("   ", 3), ("(plus 1 2))", 10), ("9223372036854775808", 0), ("(fn 1 int 2)", 4), ("1\t", 1),
        ]:
            for word in WORDS_WITH_TEXT:
                with self.subTest(word=word, text=text):
                    self.assertEqual(play(f"{word} {text}"), [f"refused: BadText {at}"])

    def test_texts_of_2000_signs(self):
        for word in WORDS_WITH_TEXT:
            self.assertEqual(answer(f"{word} " + " " * 1999 + "1"), {"kind": "int", "begin": "ok", "run": "1"}[word])
            self.assertEqual(answer(f"{word} " + " " * 2000 + "1"), "refused: BadText 2000")

    def test_blanks_about_texts(self):
        self.assertEqual(answers("kind  1", "kind 1 ", "run   (plus  1 2 )  ", "begin  1 "), ["int", "int", "3", "ok"])

    def test_what_does_not_fit(self):
        for text, name in UNFIT:
            told = "refused: Unfit" if name is None else f"refused: NoName {name}"
            for word in WORDS_WITH_TEXT:
                with self.subTest(word=word, text=text):
                    self.assertEqual(play(f"{word} {text}"), [told])

    def test_bad_texts_ahead_of_what_does_not_fit(self):
        for word in WORDS_WITH_TEXT:
            self.assertEqual(play(f"{word} (plus x true"), ["refused: BadText 12"])
            self.assertEqual(play(f"{word} (plus x (not 1)) $"), ["refused: BadText 17"])

    def test_no_machine(self):
        for row in ["go 1", "go 9999", "move", "show", "made", "used"]:
            with self.subTest(row=row):
                self.assertEqual(play(row), ["refused: NoMachine"])
                # What is refused makes no machine, and neither do the others.
                self.assertEqual(answer("begin (plus 1 true)", "run 1", "kind 1", "room 8", row), "refused: NoMachine")

    def test_bad_rows_ahead_of_no_machine(self):
        for row in ["go 0", "go", "go 10000", "move 1", "show ", "made x", "used  "]:
            self.assertEqual(play(row), ["refused: BadRow"])

    def test_not_done(self):
        self.assertEqual(answers("begin 1", "show", "go 1", "show"), ["ok", "refused: NotDone", "done", "1"])
        for text in [SPIN, TRAP, "(head (nil int))", f"(call {SUM} 41)", f"(call {BUILD} (pair 500 (nil int)))"]:
            self.assertEqual(answer(f"begin {text}", "go 9999", "show"), "refused: NotDone")

    def test_too_long(self):
        double = "(let x (pair x x) " * 20
        text = f"(let x 1 {double}x" + ")" * 21
        self.assertEqual(answers(f"run {text}", f"begin {text}", "show", "go 9999", "show", "move", "show"),
                         ["refused: TooLong", "ok", "refused: NotDone", "done", "refused: TooLong", "20", "refused: TooLong"])
        self.assertEqual(answers(f"run {LONG}"), ["refused: TooLong"])

    def test_what_is_refused_changes_nothing(self):
        bad = ["begin (plus 1 true)", "begin x", "begin (", "begin", "begin ", "room 7", "room 401", "room", "go 0", "go",
               "move 1", "x", "run (", "run x", "kind (", "show"]
        for row in bad:
            with self.subTest(row=row):
                found = answers("room 8", f"begin (head (call {UPTO} 3))", "go 5", row, "made", "go 9999", "show",
                                f"run (call {UPTO} 20)")
                self.assertTrue(found[3].startswith("refused: "), found[3])
                self.assertEqual(found[:3] + found[4:], ["ok", "ok", "running", "1", "done", "3", "no room"])

    def test_the_rows_behind_a_refusal_are_done(self):
        self.assertEqual(answers("x", "run x", "run (", "go 1", "run 1", "run (not 1)", "run 2"),
                         ["refused: BadRow", "refused: NoName x", "refused: BadText 1", "refused: NoMachine", "1",
                          "refused: Unfit", "2"])


if __name__ == "__main__":
    unittest.main()
