"""Tokens of texts [23]."""

import unittest

from sumroads.errors import BadText, InvalidText
from sumroads.tokens import tokens_of
from tests.helpers import Holds, Odd


class Tokens(Holds, unittest.TestCase):
    def test_example(self):
        self.assertEqual(tokens_of("name a:x # y\ntotal"), [
            ("word", "name", 0), ("word", "a", 5), ("sign", ":", 6), ("word", "x", 7), ("end", "", 9),
            ("word", "total", 13), ("end", "", 18)])

    def test_ends_of_rows(self):
        self.assertEqual(tokens_of(""), [("end", "", 0)])
        self.assertEqual(tokens_of("   "), [("end", "", 3)])
        self.assertEqual(tokens_of("\n\n"), [("end", "", 0), ("end", "", 1), ("end", "", 2)])
        self.assertEqual(tokens_of("#"), [("end", "", 0)])
        self.assertEqual(tokens_of(" # A:%\n#"), [("end", "", 1), ("end", "", 7)])
        self.assertEqual(tokens_of("a#b#\nc"), [("word", "a", 0), ("end", "", 1), ("word", "c", 5), ("end", "", 6)])
        self.assertEqual(tokens_of("a\n"), [("word", "a", 0), ("end", "", 1), ("end", "", 2)])

    def test_runs_go_as_long_as_they_go(self):
        self.assertEqual(tokens_of("0az9 ::b" + "c" * 30), [
            ("word", "0az9", 0), ("sign", ":", 5), ("sign", ":", 6), ("word", "b" + "c" * 30, 7), ("end", "", 38)])

    def test_what_begins_no_token(self):
        for code in range(32, 127):
            sign = chr(code)
            text = "ab\n c" + sign + "d"
            if sign.islower() or sign.isdigit() or sign in " :#":
                self.assertEqual(tokens_of(text)[-1][0], "end")
            else:
                self.assertEqual(self.error_of(tokens_of, {"text": text}).position, 5)
                self.assertIs(type(self.error_of(tokens_of, {"text": text})), BadText)
                self.assertEqual(tokens_of("# " + sign), [("end", "", 0)])
        self.assertEqual(self.error_of(tokens_of, {"text": "a # A\nB ?"}).position, 6)

    def test_errors(self):
        self.refuses(tokens_of, {"text": "a"}, "text", InvalidText, [None, 1, True, b"a", ["a"], ("a",), Odd(), ()])

    def test_lists_are_new(self):
        self.kept_and_new(tokens_of, "name a: b")
        self.assertEqual(tokens_of(text=":"), [("sign", ":", 0), ("end", "", 1)])
