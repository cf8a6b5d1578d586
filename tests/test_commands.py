"""Commands by their words alone, deeds, changes as texts [172], [173], held against patterns of their signs."""

import random
import re
import unittest

from sumroads.commands import change_text, is_command, is_deed
from sumroads.errors import InvalidRow
from tests.helpers import Holds, Odd, odd_values

NAME, COUNT, INTEGER = "[a-z][a-z0-9]{0,7}", "(0|[1-9][0-9]?)", "(0|-?[1-9][0-9]?)"
MANY = "{0,15}"
CHANGE, PRICES = f"{INTEGER}(,{INTEGER}){MANY}", f"{COUNT}(,{COUNT}){MANY}"
TEXT = "[\n -~]+"
DEEDS = {
    "model": [NAME, TEXT], "table": [NAME, NAME, TEXT], "empty": [NAME, NAME], "book": [NAME, NAME, "(whole|least|unparted)"],
    "put": [NAME, CHANGE], "take": [NAME, CHANGE], "step": [NAME, NAME, COUNT, "(on|off)"], "copy": [NAME, NAME], "drop": [NAME]}
OTHERS = {
    "undo": [], "redo": [], "names": [], "show": [NAME], "cells": [NAME], "sums": [NAME], "lot": [NAME], "closed": [NAME, NAME],
    "joined": [NAME, NAME, NAME], "far": [NAME, NAME, NAME], "whole": [NAME], "cheapest": [NAME, PRICES], "same": [NAME, NAME]}
EXAMPLES = {
    NAME: ["b", "t2", "a2345678", "model", "undo", "a23456789", "1a", "A", "", "a_b"], TEXT: ["x", " ", "\n", "name a: x\nsum a # y", ""],
    "(whole|least|unparted)": ["whole", "least", "unparted", "basis", "Whole", ""], "(on|off)": ["on", "off", "of", "ON", ""],
    COUNT: ["0", "9", "10", "99", "00", "01", "100", "-1", "-0", "", "a"],
    CHANGE: ["1,-1", "0", "-99,99", "1", "-0", "00", "1,,1", ",1", "1,", "100", "-100", "1,-01", "+1", ",".join("1" * 16), ",".join("1" * 17), "1;1", ""],
    PRICES: ["1,1", "0", "99", "1,0,99", "-1", "-0", "00", "100", "1,", ",".join("9" * 16), ",".join("9" * 17), "1,,2", ""]}


def is_such(table, value):
    """Whether a string is a command of one of the tables, by its signs."""
    return any(re.fullmatch(" ".join([word] + parts), value) for word, parts in table.items())


class Commands(Holds, unittest.TestCase):
    def test_examples(self):
        self.assertEqual(
            [is_command("put b 1,-1,0"), is_command("put b 1,-0"), is_command("step t b 0 on"), is_command("book b m basis"),
             is_command("table t m f a 3"), is_deed("show b"), is_deed("drop b"), change_text((1, -1, 0))],
            [True, False, True, False, True, False, True, "1,-1,0"])

    def check(self, value):
        deed, other = is_such(DEEDS, value), is_such(OTHERS, value)
        self.assertIs(is_deed(value), deed, value)
        self.assertIs(is_command(value), deed or other, value)
        return deed or other

    def test_each_command_with_each_part_otherwise(self):
        right = 0
        for table in (DEEDS, OTHERS):
            for word, parts in table.items():
                good = [word] + [EXAMPLES[part][0] for part in parts]
                self.assertTrue(self.check(" ".join(good)))
                for at, part in enumerate(parts):
                    for example in EXAMPLES[part]:
                        right += self.check(" ".join(good[:at + 1] + [example] + good[at + 2:]))
                for made in (good[:-1], good + ["x"], good[1:], good + [""], [""] + good, [word.upper()] + good[1:], [word + "s"] + good[1:]):
                    self.check(" ".join(made))
                for at in range(len(good)):
                    self.check(" ".join(good[:at] + ["", good[at]] + good[at + 1:]))
                self.check("".join(good))
                self.check("\n".join(good))
                self.check(" ".join(good) + "\n")
        self.assertGreater(right, 60)

    def test_commands_with_one_sign_otherwise(self):
        draw = random.Random(1)
        for table in (DEEDS, OTHERS):
            for word, parts in table.items():
                for _ in range(150):
                    text = " ".join([word] + [draw.choice(EXAMPLES[part]) for part in parts])
                    at = draw.randrange(len(text))
                    self.check(draw.choice([text[:at] + text[at + 1:], text[:at] + draw.choice(" ,-09az\n") + text[at:], text]))

    def test_texts_are_all_that_stands_behind_the_blank(self):
        self.asks(is_command, right=["model m x", "model m  ", "model m \n\n", "table t m a  b", "table t m ", "table t m  "][:4] + ["table t m  "],
                  wrong=["model m ", "model m", "table t m ", "table t m", "model  x", "model m\nx"])
        self.asks(is_deed, right=["model m show b"], wrong=["show model"])

    def test_any_value(self):
        for function in (is_command, is_deed):
            self.asks(function, wrong=odd_values() + ["", " ", "undo ", " undo", "undo redo", b"undo", ["undo"], ("drop", "b"), "drop b ", "drop  b"])
        self.asks(is_command, right=["undo", "redo", "names"], wrong=["Undo", "names x", "name"])
        self.asks(is_deed, wrong=["undo", "redo", "names"])
        self.assertIs(is_command(value="undo"), True)
        self.assertIs(is_deed(value="drop b"), True)

    def test_change_text(self):
        self.assertEqual(change_text(row=(0,)), "0")
        self.assertEqual(change_text((10 ** 6, -10 ** 6) * 20), ",".join(["1000000", "-1000000"] * 20))
        draw = random.Random(2)
        for _ in range(50):
            row = tuple(draw.randint(-99, 99) for _ in range(draw.randint(1, 16)))
            self.assertEqual(change_text(row), ",".join(map(str, row)))
            self.assertTrue(self.check("put b " + change_text(row)))
        self.refuses(change_text, {"row": (1,)}, "row", InvalidRow, [
            (), (0,) * 41, [1], (True,), (1, None), (10 ** 6 + 1,), (-10 ** 6 - 1,), None, 1, True, "1", Odd(), (Odd(),)])
