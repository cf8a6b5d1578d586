"""Weights, chances, draws [141], [142]."""

import itertools
import math
import random
import unittest

from sumroads.draws import chance, is_draw, weight_of
from sumroads.errors import InvalidBook, InvalidKind, InvalidTable
from tests.helpers import Holds, Odd, odd_values
from tests.test_moves import unit_moves
from tests.walkers import chance_plainly, ratio_of, weight_plainly

MOVE, THERE, HERE = (1, -2, 1), (1, 0, 1), (0, 2, 0)
WRONG_KINDS = ["", "Even", "way", "evenways", "ways ", None, True, 0, ("even",), ["ways"], b"even", Odd()]
WRONG_LONE_TABLES = [
    (), (0,) * 17, [1, 0], (1, True), (False,), (-1, 0), (20001,), (1, None), (1, "1"), (Odd(),), None, True, 1, "11", Odd(), {1: 2}]


class Draws(Holds, unittest.TestCase):
    def test_examples(self):
        self.assertEqual(
            [weight_of("ways", THERE), weight_of("even", THERE), chance("ways", THERE, HERE), chance("ways", HERE, THERE),
             is_draw((MOVE,), (1, 0, 2)), is_draw((MOVE,), (2, 0, 2)), is_draw((MOVE,), (0, 2, 2))],
            [2, 1, (1, 2), (1, 1), True, False, False])

    def test_weights_are_ways_to_put_things_into_cells(self):
        for table in itertools.product(range(4), repeat=3):
            if sum(table) <= 6:
                things = [cell for cell, count in enumerate(table) for _ in range(count)]
                self.assertEqual(weight_of("ways", table), len(set(itertools.permutations(things))))
            self.assertEqual(weight_of(table=table, kind="even"), 1)
        draw = random.Random(1)
        for _ in range(100):
            table = tuple(draw.randint(0, 12) for _ in range(draw.randint(1, 10)))
            self.assertEqual(weight_of("ways", table), weight_plainly("ways", table))
        self.assertEqual(weight_of("ways", (0,) * 16), 1)
        self.assertEqual(weight_of("ways", (120,)), 1)

    def test_chances(self):
        draw = random.Random(2)
        for _ in range(200):
            cells = draw.randint(1, 5)
            table, other = [tuple(draw.randint(0, 6) for _ in range(cells)) for _ in range(2)]
            for kind in ("even", "ways"):
                told = chance(kind, table, other)
                self.assertEqual(told, ratio_of(chance_plainly(kind, table, other)))
                self.assertTrue(0 < told[0] <= told[1] and math.gcd(*told) == 1)
        self.assertEqual(chance(other=HERE, table=THERE, kind="even"), (1, 1))
        self.assertEqual(chance("ways", THERE, THERE), (1, 1))

    def test_totals_to_120_and_more(self):
        self.assertEqual(weight_of("ways", (60, 60)), math.comb(120, 60))
        self.too_many("total", 120, weight_of, "ways", (60, 61))
        self.too_many("total", 120, weight_of, "ways", (20000,) * 16)
        self.assertEqual(weight_of("even", (20000,) * 16), 1)
        self.assertEqual(chance("ways", (120, 0), (119, 1)), (1, 1))
        self.too_many("total", 120, chance, "ways", (121, 0), (0, 0))
        self.too_many("total", 120, chance, "ways", (0, 0), (121, 0))
        self.assertEqual(chance("even", (121, 0), (20000, 0)), (1, 1))

    def test_is_draw(self):
        book = (MOVE, (2, -4, 2))
        for value in itertools.product(range(-1, 5), repeat=3):
            self.assertIs(is_draw(book, value), 0 <= value[0] < 4 and 0 <= value[1] < value[2])
        self.asks(is_draw, book, right=[(3, 0, 10 ** 29), (0, 10 ** 28, 10 ** 29)], wrong=[
            [0, 0, 1], (0, 0), (0, 0, 1, 0), (True, 0, 1), (0, False, 1), (0, 0, True), (0, None, 1), ("0", 0, 1), (Odd(), 0, 1), (0, 0, Odd())])
        self.asks(is_draw, book, wrong=odd_values())
        self.assertIs(is_draw((), (0, 0, 1)), False)
        self.asks(is_draw, (), wrong=odd_values())
        self.assertIs(is_draw(value=(0, 0, 1), book=(MOVE,)), True)
        many = tuple(sorted(unit_moves(16)[:60]))
        self.asks(is_draw, many, right=[(119, 0, 1)], wrong=[(120, 0, 1)])
        self.asks(is_draw, ((1,), (99,)), right=[(3, 0, 1)], wrong=[(4, 0, 1)])

    def test_errors(self):
        good = {"kind": "ways", "table": (1, 0, 1)}
        self.refuses(weight_of, good, "kind", InvalidKind, WRONG_KINDS)
        self.refuses(weight_of, good, "table", InvalidTable, WRONG_LONE_TABLES)
        wrongs = [("kind", "way", InvalidKind), ("table", (), InvalidTable)]
        self.first_refused(weight_of, good, wrongs)
        good = {"kind": "ways", "table": (1, 0, 1), "other": (0, 2, 0)}
        self.refuses(chance, good, "kind", InvalidKind, WRONG_KINDS)
        self.refuses(chance, good, "table", InvalidTable, WRONG_LONE_TABLES)
        self.refuses(chance, good, "other", InvalidTable, WRONG_LONE_TABLES + [(1, 0), (1, 0, 1, 0)])
        self.first_refused(chance, good, wrongs + [("other", (1, 0), InvalidTable)])
        self.refuses(chance, {"kind": "ways", "table": (121, 0), "other": None}, "other", InvalidTable, [None])
        move = (1,) + (0,) * 15
        self.refuses(is_draw, {"book": (MOVE,), "value": (0, 0, 1)}, "book", InvalidBook, [
            [MOVE], (MOVE, MOVE), ((2, -4, 2), MOVE), ((1, -1), (1, -2, 1)), ((0, 0, 0),), ((-1, 2, -1),), ((100, 0),), ((1, True),), ((),),
            (move + (0,),), (list(MOVE),), (MOVE, None), None, True, 1, "ab", Odd(), (Odd(),), MOVE,
            tuple(sorted(unit_moves(16)))[:61]])
        self.assertIs(is_draw((move,), (1, 0, 1)), True)
