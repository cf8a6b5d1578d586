"""Tables, sums and lots [5], [31], held by plain listings."""

import itertools
import random
import unittest

from sumroads.errors import InvalidFrame, InvalidSums, InvalidTable
from sumroads.lots import is_empty, is_sums, is_table, lot, sums_of
from tests.helpers import (
    BROAD, COINS, HIGH, Holds, Odd, SQUARE, TOTAL, WRONG_FRAMES, lot_plainly, odd_values, random_frame,
    sums_plainly)

WRONG_TABLES = [
    (0, 0), (0, 0, 0, 0), [1, 2, 1], (1, True, 1), (False, 0, 0), (1, -1, 0), (20001, 0, 0), (0, 0, 6667),
    (20000, 1, 0), (), None, 0, "abc", Odd(), (Odd(), 0, 0), (None, 0, 0), ((0,), 0, 0), b"abc"]
WRONG_SUMS = [
    (1,), (1, 2, 3), [4, 8], (4, True), (False, 0), (-1, 0), (20001, 0), (0, 20001), (), None, 8, "48", Odd(),
    (Odd(), 0), (None, 0), {4, 8}]


def random_sums(draw, frame):
    cells = len(frame[1][0])
    if draw.random() < 0.6:
        return sums_plainly(frame, [draw.randint(0, 3) for _ in range(cells)])
    return tuple(draw.randint(0, 9) for _ in frame[1])


def cases(seed, many):
    draw = random.Random(seed)
    for _ in range(many):
        frame = random_frame(draw, draw.randint(1, 5), draw.randint(1, 4), draw.choice([1, 2, 3, 9]))
        sums = random_sums(draw, frame)
        yield frame, sums, lot_plainly(frame, sums)


class Lots(Holds, unittest.TestCase):
    def test_examples(self):
        self.assertEqual(
            [is_table(SQUARE, (1, 0, 0, 2)), is_table(SQUARE, (1, 0, True, 2)), sums_of(SQUARE, (1, 0, 0, 2)),
             is_sums(COINS, (1, 4)), is_empty(COINS, (1, 4))], [True, False, (1, 2, 1, 2), True, True])
        self.assertEqual(
            [lot(SQUARE, (1, 2, 1, 2)), lot(COINS, (4, 8)), lot(COINS, (1, 4))],
            [[(0, 1, 1, 1), (1, 0, 0, 2)], [(0, 4, 0), (1, 2, 1), (2, 0, 2)], []])

    def test_is_table(self):
        self.asks(is_table, COINS, right=[(0, 0, 0), (20000, 0, 0), (0, 0, 6666), (1, 1, 1)], wrong=WRONG_TABLES)
        self.asks(is_table, COINS, wrong=odd_values())
        self.asks(is_table, ("frame", ((9,),)), right=[(2222,)], wrong=[(2223,)])
        self.assertIs(is_table(value=(1,), frame=("frame", ((1,),))), True)

    def test_is_sums(self):
        self.asks(is_sums, COINS, right=[(0, 0), (20000, 20000), (1, 4)], wrong=WRONG_SUMS)
        self.asks(is_sums, COINS, wrong=odd_values())
        self.assertIs(is_sums(value=(1,), frame=("frame", ((9,),))), True)

    def test_sums_of(self):
        draw = random.Random(1)
        for frame in (SQUARE, COINS, TOTAL, BROAD, HIGH):
            for size in (0, 3, 700):
                table = tuple(draw.randint(0, size) for _ in frame[1][0])
                self.assertEqual(sums_of(frame, table), sums_plainly(frame, table))
        self.assertEqual(sums_of(table=(2, 0), frame=("frame", ((9, 1), (0, 1)))), (18, 0))

    def test_lots_by_listing(self):
        empty, single = 0, 0
        for frame, sums, wanted in cases(2, 500):
            self.assertEqual(lot(frame, sums), wanted)
            self.assertIs(is_empty(frame, sums), not wanted)
            empty += not wanted
            single += len(wanted) == 1
        self.assertGreater(empty, 50)
        self.assertGreater(single, 50)

    def test_all_lots_have_each_table_once(self):
        frame = ("frame", ((2, 1, 0), (1, 1, 3)))
        found = []
        for sums in itertools.product(range(7), range(7)):
            found.extend(lot(frame, sums))
        wanted = [
            table for table in itertools.product(range(7), repeat=3)
            if max(sums_plainly(frame, table)) < 7]
        self.assertEqual(sorted(found), wanted)

    def test_sums_of_nought_and_sums_told_twice(self):
        for frame in (SQUARE, COINS, BROAD, HIGH):
            nought = tuple([0] * len(frame[1]))
            self.assertEqual(lot(frame, nought), [tuple([0] * len(frame[1][0]))])
            self.assertIs(is_empty(frame, nought), False)
        twice = ("frame", ((1, 2), (1, 2), (0, 0)))
        self.assertEqual(lot(twice, (3, 3, 0)), [(1, 1), (3, 0)])
        for sums in ((3, 4, 0), (3, 3, 1)):
            self.assertEqual(lot(twice, sums), [])
            self.assertIs(is_empty(twice, sums), True)
        self.assertEqual(lot(HIGH, tuple(range(16))), [tuple(range(16))])
        self.assertEqual(lot(HIGH, tuple([20000] * 16)), [tuple([20000] * 16)])

    def test_2000_tables_and_more(self):
        pair = ("frame", ((1, 1),))
        self.assertEqual(lot(pair, (1999,)), [(at, 1999 - at) for at in range(2000)])
        self.too_many("tables", 2000, lot, pair, (2000,))
        self.too_many("tables", 2000, lot, pair, (20000,))
        self.too_many("tables", 2000, lot, BROAD, (20000,))
        self.too_many("tables", 2000, lot, SQUARE, (2000, 2000, 2000, 2000))
        self.assertIs(is_empty(BROAD, (20000,)), False)

    def test_great_sums(self):
        even = ("frame", ((2, 4, 6),))
        self.assertEqual(lot(even, (19999,)), [])
        self.assertIs(is_empty(even, (19999,)), True)
        self.assertIs(is_empty(even, (20000,)), False)
        self.assertEqual(lot(COINS, (6000, 20000)), [])
        self.assertEqual(lot(COINS, (6667, 20000)), [(0, 1, 6666)])
        self.assertEqual(lot(COINS, (20000, 20000)), [(20000, 0, 0)])
        steep = ("frame", ((1, 1, 1, 1, 1), (0, 1, 1, 1, 1)))
        self.assertEqual(lot(steep, (20000, 0)), [(20000, 0, 0, 0, 0)])
        self.assertIs(is_empty(steep, (19999, 20000)), True)
        holes = ("frame", ((1, 1, 1, 1), (0, 1, 3, 4)))
        self.assertEqual(lot(holes, (1, 2)), [])
        self.assertEqual(lot(holes, (5000, 19999)), [(0, 0, 1, 4999)])

    def test_errors(self):
        for function in (is_table, is_sums):
            self.refuses(function, {"frame": COINS, "value": ()}, "frame", InvalidFrame, WRONG_FRAMES)
        good = {"frame": COINS, "table": (1, 2, 1)}
        self.refuses(sums_of, good, "frame", InvalidFrame, WRONG_FRAMES)
        self.refuses(sums_of, good, "table", InvalidTable, WRONG_TABLES)
        self.first_refused(sums_of, good, [("frame", None, InvalidFrame), ("table", None, InvalidTable)])
        for function in (lot, is_empty):
            good = {"frame": COINS, "sums": (4, 8)}
            self.refuses(function, good, "frame", InvalidFrame, WRONG_FRAMES)
            self.refuses(function, good, "sums", InvalidSums, WRONG_SUMS)
            self.first_refused(function, good, [("frame", None, InvalidFrame), ("sums", None, InvalidSums)])

    def test_arguments_stay_and_lists_are_new(self):
        self.kept_and_new(lot, COINS, (4, 8))
        self.kept_and_new(lot, COINS, (1, 4))
        self.kept_and_new(sums_of, COINS, (1, 2, 1))
        self.assertEqual(lot(sums=(1, 3), frame=COINS), [(0, 0, 1)])
