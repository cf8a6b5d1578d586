"""Models, tables and sums written [25], and read again."""

import random
import unittest

from sumroads.errors import InvalidModel, InvalidPosition, InvalidSums, InvalidTable
from sumroads.frames import frame_of, row_labels
from sumroads.models import places_of
from sumroads.parser import parse_model, parse_table
from sumroads.printer import cell_name, model_text, sums_text, table_text
from tests.helpers import Holds, Odd
from tests.test_models import CUBE, ONE, RIGHT, SQUARE, TWO, WRONG_MODELS

TOO_MANY_ROWS = CUBE[:3] + (CUBE[3] + ((),),)
WRONG_TABLES = [
    (0, 1), (0, 1, 2, 3), [0, 1, 2], (0, True, 2), (0, -1, 2), (20001, 0, 0), (20000, 1, 0), (), None, 0, "f b 1",
    Odd(), (0, Odd(), 1), (0, None, 1)]
WRONG_SUMS = [
    (1, 2, 2), (1, 2, 2, 1, 1), [1, 2, 2, 1], (1, 2, 2, True), (1, 2, 2, -1), (1, 2, 2, 20001), (), None, 1, "",
    Odd(), (Odd(), 1, 1, 1)]


class Printer(Holds, unittest.TestCase):
    def test_examples(self):
        self.assertEqual(
            [model_text(SQUARE), cell_name(SQUARE, 2)],
            ["name sex: f m\nname age: a b\nvoid m b\nsum sex\nsum age\n", "m a"])
        self.assertEqual(
            [table_text(SQUARE, (0, 1, 2)), sums_text(SQUARE, (1, 2, 2, 1))],
            ["f b 1\nm a 2\n", "sex=f 1\nsex=m 2\nage=a 2\nage=b 1\n"])

    def test_model_text(self):
        self.assertEqual(model_text(model=ONE), "name a: x\ntotal\n")
        self.assertEqual(model_text(TWO), "name a: x y\nname b: 0 name\nsum b\ntotal\nsum a b\n")
        for model in RIGHT:
            text = model_text(model)
            self.assertEqual(parse_model(text), model)
            self.assertEqual(len(text.split("\n")), 1 + sum(len(part) for part in model[1:]))

    def test_table_text(self):
        draw = random.Random(1)
        for model in RIGHT:
            if len(set(model[3])) == 16:
                continue
            many = len(places_of(model))
            for size in (0, 1, 9, 1200):
                table = tuple(draw.randint(0, size) for _ in range(many))
                text = table_text(model, table)
                self.assertEqual(parse_table(model, text), table)
                rows = [f"{cell_name(model, at)} {count}\n" for at, count in enumerate(table) if count]
                self.assertEqual(text, "".join(rows))
        self.assertEqual(table_text(table=(0, 0, 0, 0), model=TWO), "")
        self.assertEqual(table_text(ONE, (20000,)), "x 20000\n")

    def test_sums_text(self):
        for model in RIGHT:
            if len(set(model[3])) == 16:
                continue
            many = len(frame_of(model)[1])
            for sums in (tuple(range(many)), tuple([20000] * many), tuple([0] * many)):
                wanted = "".join(f"{label} {number}\n" for label, number in zip(row_labels(model), sums))
                self.assertEqual(sums_text(model, sums), wanted)
        self.assertEqual(sums_text(sums=(7,), model=ONE), "total 7\n")

    def test_cell_name(self):
        self.assertEqual([cell_name(TWO, at) for at in range(4)], ["x 0", "x name", "y 0", "y name"])
        self.assertEqual(cell_name(position=0, model=ONE), "x")
        self.assertEqual(cell_name(TOO_MANY_ROWS, 15), "y y y y")
        for model in RIGHT:
            for at, place in enumerate(places_of(model)):
                words = [model[1][k][1][value] for k, value in enumerate(place)]
                self.assertEqual(cell_name(model, at), " ".join(words))

    def test_errors(self):
        self.refuses(model_text, {"model": ONE}, "model", InvalidModel, WRONG_MODELS)
        good = {"model": SQUARE, "table": (0, 1, 2)}
        self.refuses(table_text, good, "model", InvalidModel, WRONG_MODELS)
        self.refuses(table_text, good, "table", InvalidTable, WRONG_TABLES)
        self.first_refused(table_text, good, [("model", None, InvalidModel), ("table", None, InvalidTable)])
        good = {"model": SQUARE, "sums": (1, 2, 2, 1)}
        self.refuses(sums_text, good, "model", InvalidModel, WRONG_MODELS)
        self.refuses(sums_text, good, "sums", InvalidSums, WRONG_SUMS)
        self.first_refused(sums_text, good, [("model", None, InvalidModel), ("sums", None, InvalidSums)])
        good = {"model": SQUARE, "position": 0}
        self.refuses(cell_name, good, "model", InvalidModel, WRONG_MODELS)
        self.refuses(cell_name, good, "position", InvalidPosition, [3, -1, True, False, None, "0", (0,), [0], Odd()])
        self.first_refused(cell_name, good, [("model", None, InvalidModel), ("position", 3, InvalidPosition)])

    def test_too_many_rows_come_ahead(self):
        for function in (table_text, sums_text):
            for value in (None, (), tuple([0] * 16), tuple([0] * 17)):
                self.too_many("rows", 16, function, TOO_MANY_ROWS, value)
        self.assertTrue(model_text(TOO_MANY_ROWS).endswith("sum a b c d\ntotal\n"))

    def test_arguments_stay(self):
        self.kept_and_new(model_text, SQUARE)
        self.kept_and_new(table_text, SQUARE, (0, 1, 2))
        self.kept_and_new(sums_text, SQUARE, (1, 2, 2, 1))
