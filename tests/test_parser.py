"""Texts read as models and as tables [23] to [25]; wrong places to the character.

In the texts of wrong places a ^ stands ahead of the wrong place, and is left out.
"""

import itertools
import unittest

from sumroads.errors import BadText, InvalidModel, InvalidText
from sumroads.models import is_model, places_of
from sumroads.parser import parse_model, parse_table
from tests.helpers import Holds, Odd
from tests.test_models import CUBE, RIGHT, SQUARE, WRONG_MODELS

NAMES = "name a: x y\nname b: u v\n"
FOUR = "name a: x y\nname b: x y\nname c: x y\nname d: x y\n"
ALL_SUMS = "".join(
    "sum " + " ".join(told) + "\n" if told else "total\n"
    for many in range(5) for told in itertools.combinations("abcd", many))
WRONG_TEXTS = [
    # characters that begin no token, whatever else is wrong ahead of them
    "foo\n:::\nname a: x ^? !", "^A", "name a: x\ntotal\n^=", "name ^-", "total # A\n^A",
    # words of rows
    "^foo", "^:", "^a: x", NAMES + "^names c: x", NAMES + "total\n^1", NAMES + "  ^x # y",
    "^sum", "^void x", "^total", "# name a: x\n^total",
    FOUR + "^name e: x", FOUR + "^name", NAMES + "total\n^name c: x", NAMES + "void x u\n^name c: x",
    NAMES + "sum a\n^name",
    # names
    "name^", "name ^# a: x", "name  ^\ntotal", "name ^: x", "name ^1: x", "name ^a23456789: x", "name ^name: x",
    "name ^void: x", "name ^sum: x", "name ^total: x", NAMES + "name ^b: x", "name a^", "name a ^x", "name a^# :",
    "name a ^b: x",
    # values
    "name a:^", "name a: ^\nsum a", "name a:^# x", "name a: ^: x", "name a: x ^: y", "name a: x ^x", "name a: x y ^x",
    "name a: ^123456789", "name a: 1 2 3 4 5 6 ^7", "name a: 1 2 3 4 5 6 ^1", "name a: 1 2 3 4 5 6 ^:",
    # voids
    NAMES + "void^", NAMES + "void ^# x", NAMES + "void x^", NAMES + "void x ^\ntotal", NAMES + "void x u ^v",
    NAMES + "void ^u x", NAMES + "void x ^x", NAMES + "void ^:", NAMES + "void x ^:", NAMES + "void x u ^: v",
    NAMES + "void x u\nvoid x ^u", NAMES + "void x u\nvoid x ^u u", NAMES + "void ^a u", NAMES + "void x u^:",
    # sums
    NAMES + "sum^", NAMES + "sum ^# a", NAMES + "sum ^\ntotal", NAMES + "sum ^c", NAMES + "sum ^:", NAMES + "sum a ^:",
    NAMES + "sum a ^a", NAMES + "sum a b ^a", NAMES + "sum ^x", NAMES + "sum ^total", NAMES + "sum a\nsum a^",
    NAMES + "sum a b\nsum b a ^", NAMES + "sum a b\nsum b a ^# c", NAMES + "sum a b\nsum b a^\ntotal",
    NAMES + "sum a b # z\nsum b ^b",
    # totals
    NAMES + "total ^a", NAMES + "total ^:", NAMES + "total\n^total", NAMES + "total\n^total a", NAMES + "total\n ^total #",
    # the seventeenth told sum
    FOUR + ALL_SUMS + "^sum a", FOUR + ALL_SUMS + "^total", FOUR + ALL_SUMS + "^sum", FOUR + ALL_SUMS + "^sum e",
    # nothing told
    "^", "   ^", "# name a: x^", "\n\n^", NAMES + "^", NAMES + "# total^", NAMES + "void x u\n^", NAMES + "void x u  ^",
    "name a: x\nvoid x\ntotal\n^", NAMES + "void x u\nvoid y v\nvoid x v\nsum a\nvoid y u # all^",
]
WRONG_TABLES = [
    "^?", "x 0 ^:", "foo\nx 0 1 ^!", "x 0 1\ny ^A", "# :\n^:",
    "^a", "^0 x", "x ^x 1", "x^", "x ^# 0", "x ^\ny 0 1", "x 0^", "x 0 ^# 1", "x 0  ^\n", "x 0 1 ^1", "x 0 1 ^x",
    "x 0 ^01", "x 0 ^00", "x 0 ^100000", "x 0 ^a", "x 0 ^1a", "x 0 ^x", "x 0 1\nx ^0", "x 0 1\nx ^0 1",
    "x 0 0\ny 0 3\nx ^0 0", "^name 1", "x 0 1\n^x0 1",
]


def marked(text):
    place = text.index("^")
    return text[:place] + text[place + 1:], place


class ParseModel(Holds, unittest.TestCase):
    def test_example(self):
        self.assertEqual(
            parse_model("name sex: f m\nname age: a b # years\nvoid m b\nsum sex\nsum age"), SQUARE)

    def test_blanks_remarks_and_rows_without_tokens(self):
        text = "\n  # nothing: A?\nname a:x y#z\n   name   b  :  u   v   \n\n\ntotal#\n#\n"
        self.assertEqual(parse_model(text), ("model", (("a", ("x", "y")), ("b", ("u", "v"))), (), ((),)))

    def test_sequences(self):
        text = NAMES + "sum b a\nvoid y v\ntotal\nsum b\nvoid x u\nsum a"
        self.assertEqual(parse_model(text), (
            "model", (("a", ("x", "y")), ("b", ("u", "v"))), ((0, 0), (1, 1)), ((0, 1), (), (1,), (0,))))

    def test_words_that_are_values(self):
        text = "name a: name void sum total 0 12345678\nname names: a 0\nsum names a\nvoid name a\nvoid total 0"
        self.assertEqual(parse_model(text), (
            "model", (("a", ("name", "void", "sum", "total", "0", "12345678")), ("names", ("a", "0"))),
            ((0, 0), (3, 1)), ((0, 1),)))

    def test_all_told_sums(self):
        model = parse_model(FOUR + ALL_SUMS)
        self.assertEqual(len(model[3]), 16)
        self.assertIs(is_model(model), True)
        self.assertEqual(parse_model(FOUR + "sum d c b a"), CUBE)

    def test_wrong_places(self):
        for text in WRONG_TEXTS:
            bare, place = marked(text)
            with self.subTest(text=text):
                error = self.error_of(parse_model, {"text": bare})
                self.assertIs(type(error), BadText)
                self.assertEqual(error.position, place)

    def test_many_values(self):
        self.assertEqual(len(parse_model("name a: 1 2 3 4 5 6\ntotal")[1][0][1]), 6)
        self.assertEqual(len(parse_model("name a: 1\ntotal")[1][0][1]), 1)
        self.assertEqual(len(parse_model("name a2345678: 12345678\ntotal")[1]), 1)

    def voided(self, many, cells):
        names = "".join(
            f"name {'abcd'[at]}: {' '.join(str(k) for k in range(size))}\n" for at, size in enumerate(many))
        places = list(itertools.product(*[range(size) for size in many]))
        return names + "total\n" + "".join(
            "void " + " ".join(str(k) for k in place) + "\n" for place in places[cells:][::-1])

    def test_64_places_and_more(self):
        model = parse_model(self.voided((4, 4, 4), 16))
        self.assertEqual((len(places_of(model)), len(model[2])), (16, 48))
        self.too_many("cells", 16, parse_model, self.voided((4, 4, 4), 17))
        for cells in (1, 16, 17, 66):
            self.too_many("places", 64, parse_model, self.voided((6, 6, 2), cells))
        self.too_many("places", 64, parse_model, self.voided((6, 6, 6, 6), 1296))
        error = self.error_of(parse_model, {"text": self.voided((6, 6, 2), 0)})
        self.assertEqual((type(error), error.position), (BadText, len(self.voided((6, 6, 2), 0))))

    def test_16_and_17_cells(self):
        self.assertEqual(len(places_of(parse_model(self.voided((6, 3), 16)))), 16)
        self.too_many("cells", 16, parse_model, self.voided((6, 3), 17))
        self.too_many("cells", 16, parse_model, self.voided((6, 3), 18))
        self.assertEqual(len(places_of(parse_model(self.voided((6, 3), 1)))), 1)

    def test_wrong_places_come_ahead_of_bounds(self):
        text = self.voided((6, 6, 6), 216) + "total"
        error = self.error_of(parse_model, {"text": text})
        self.assertEqual((type(error), error.position), (BadText, len(text) - 5))

    def test_errors(self):
        self.refuses(parse_model, {"text": ""}, "text", InvalidText, [None, 1, True, b"total", ["total"], (), Odd()])


class ParseTable(Holds, unittest.TestCase):
    model = ("model", (("a", ("x", "y")), ("b", ("0", "name"))), ((1, 1),), ((),))

    def test_examples(self):
        self.assertEqual(parse_table(SQUARE, "m a 2\nf b 1"), (0, 1, 2))

    def test_tables(self):
        self.assertEqual(parse_table(self.model, ""), (0, 0, 0))
        self.assertEqual(parse_table(self.model, "\n # x 0 1 :\n"), (0, 0, 0))
        self.assertEqual(parse_table(self.model, "y 0 3 # three\n\n  x   name 0\nx 0 19997"), (19997, 0, 3))
        self.assertEqual(parse_table(text="x name 20000", model=self.model), (0, 20000, 0))
        self.assertEqual(parse_table(("model", (("a", ("7",)),), (), ((),)), "7 7"), (7,))

    def test_wrong_places(self):
        for text in WRONG_TABLES + ["y ^name 1", "y ^name"]:
            bare, place = marked(text)
            with self.subTest(text=text):
                error = self.error_of(parse_table, {"model": self.model, "text": bare})
                self.assertIs(type(error), BadText)
                self.assertEqual(error.position, place)

    def test_too_great_sums(self):
        self.too_many("counts", 20000, parse_table, self.model, "x 0 20001")
        self.too_many("counts", 20000, parse_table, self.model, "x 0 99999")
        self.too_many("counts", 20000, parse_table, self.model, "x 0 19000\ny 0 1001")
        parted = self.model[:3] + (((0,),),)
        self.assertEqual(parse_table(parted, "x 0 20000\ny 0 20000"), (20000, 0, 20000))
        error = self.error_of(parse_table, {"model": self.model, "text": "x 0 99999\n:"})
        self.assertEqual((type(error), error.position), (BadText, 10))

    def test_errors(self):
        good = {"model": self.model, "text": ""}
        self.refuses(parse_table, good, "model", InvalidModel, WRONG_MODELS)
        self.refuses(parse_table, good, "text", InvalidText, [None, 1, True, b"x", [""], ("",), Odd()])
        self.first_refused(parse_table, good, [("model", None, InvalidModel), ("text", None, InvalidText)])
        more = CUBE[:3] + (CUBE[3] + ((),),)
        for text in ("", None, "?", "x x x x 99999"):
            self.too_many("rows", 16, parse_table, more, text)

    def test_every_cell(self):
        for model in RIGHT:
            if model[3] != ((),):
                continue
            for at, place in enumerate(places_of(model)):
                text = " ".join(model[1][k][1][value] for k, value in enumerate(place)) + " 5"
                wanted = [0] * len(places_of(model))
                wanted[at] = 5
                self.assertEqual(parse_table(model, text), tuple(wanted))
