"""The interface: names, arguments by place, and an `__init__` that binds nothing."""

import inspect
import subprocess
import sys
import unittest

from plainspeak import compiling, desk, errors, fitting, kinds, machine, reading, words

FUNCTIONS = [
    (kinds, "kind_text", ["kind"]), (reading, "read", ["text"]), (reading, "written", ["part"]),
    (fitting, "kind_of", ["part"]), (compiling, "compiled", ["part"]), (desk, "play", ["text"]),
    (machine, "Machine", ["code", "room"]),
]
METHODS = {"run": ["self", "steps"], "collect": ["self"], "made": ["self"], "used": ["self"], "shown": ["self"]}


class TestInterface(unittest.TestCase):
    def test_init_binds_nothing(self):
        program = "import plainspeak; print([name for name in vars(plainspeak) if not name.startswith('__')])"
        told = subprocess.run([sys.executable, "-c", program], capture_output=True, text=True, check=True)
        self.assertEqual(told.stdout.strip(), "[]")

    def test_what_functions_and_classes_take(self):
        for module, name, arguments in FUNCTIONS:
            with self.subTest(name=name):
                self.assertEqual(list(inspect.signature(getattr(module, name)).parameters), arguments)

    def test_what_methods_take(self):
        for name, arguments in METHODS.items():
            with self.subTest(name=name):
                self.assertEqual(list(inspect.signature(getattr(machine.Machine, name)).parameters), arguments)

    def test_kinds_of_what_is_told(self):
        self.assertIs(type(kinds.kind_text(("list", "int"))), str)
        self.assertIs(type(reading.written(("num", 5))), str)
        self.assertIs(type(reading.read("(not true)")), tuple)
        self.assertIs(type(reading.read("5")[1]), int)
        self.assertIs(reading.read("true")[1], True)
        self.assertIs(reading.read("false")[1], False)
        self.assertIs(type(errors.BadText("words", 3).at), int)
        self.assertIs(type(fitting.kind_of(("num", 5))), str)
        self.assertIs(type(fitting.kind_of(("nil", "int"))), tuple)
        self.assertIs(type(compiling.compiled(("num", 5))), list)
        self.assertIs(type(desk.play("run 1")), list)
        self.assertIs(type(desk.play("run 1")[0]), str)

    def test_refusals_of_read_tell_whole_numbers(self):
        for text in ["", "$", "(not", "1 2", " " * 2001]:
            with self.assertRaises(errors.BadText) as caught:
                reading.read(text)
            self.assertIs(type(caught.exception.at), int)


class TestWords(unittest.TestCase):
    def test_names(self):
        for run in ["x", "a1", "abcdefgh", "z0000000"]:
            self.assertTrue(words.is_name(run), run)
        for run in ["", "1", "1a", "-", "a-b", "abcdefghi", "A", "aB", "num", "true", "fun", "(", "\u00e9"]:
            self.assertFalse(words.is_name(run), run)

    def test_numbers(self):
        for run in ["0", "-0", "0" * 19, "9223372036854775807", "-9223372036854775808"]:
            self.assertTrue(words.is_number(run), run)
        for run in ["", "-", "--1", "1-", "a", "0" * 20, "9223372036854775808", "-9223372036854775809", "+1", " 1", "\u0661"]:
            self.assertFalse(words.is_number(run), run)


if __name__ == "__main__":
    unittest.main()
