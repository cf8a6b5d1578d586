"""Cheapest tables and falling roads [131] to [133], [136], held against listed lots."""

import random
import unittest

from sumroads.cheapest import cheapest, cheapest_in, falling_road, is_cheapest, plain_cheapest
from sumroads.errors import EmptyLot, InvalidFrame, InvalidPrices, InvalidSums, InvalidTable
from sumroads.lots import lot
from sumroads.prices import cost
from sumroads.wholebooks import whole_rules
from tests.helpers import BROAD, COINS, HIGH, Holds, SQUARE, TOTAL, WRONG_FRAMES, lot_plainly, sums_plainly
from tests.ruling import path_plainly
from tests.test_elimination import NEAR_200, beside, linked, small_frames
from tests.test_lots import WRONG_SUMS, WRONG_TABLES
from tests.test_prices import WRONG_PRICES
from tests.test_wholebooks import TURNED_200, least_plainly

PAIR = ("frame", ((1, 1),))
BY_RULES = {"cheapest": cheapest, "is_cheapest": is_cheapest, "falling_road": falling_road}


def cases(seed, many):
    """Tuples (frame, prices, a table, its lot), with great, small, like prices, and noughts."""
    for draw, frame in small_frames(seed, many, 4, 3, 3):
        cells = len(frame[1][0])
        prices = tuple(draw.choice(draw.choice([[0], [5], [0, 1], [0, 1, 2, 3], [97, 98, 99]])) for _ in range(cells))
        table = tuple(draw.randint(0, 3) for _ in range(cells))
        yield frame, prices, table, lot_plainly(frame, sums_plainly(frame, table))


class Cheapest(Holds, unittest.TestCase):
    def test_examples(self):
        self.assertEqual(
            [cheapest(COINS, (1, 2, 1), (1, 0, 1)), cheapest(COINS, (1, 2, 1), (0, 1, 0)), cheapest_in(COINS, (4, 8), (0, 0, 0)),
             plain_cheapest(COINS, (4, 8), (0, 0, 0)), is_cheapest(COINS, (0, 4, 0), (0, 1, 0)), is_cheapest(COINS, (2, 0, 2), (0, 1, 0))],
            [(0, 4, 0), (2, 0, 2), (2, 0, 2), (2, 0, 2), False, True])
        self.assertEqual(falling_road(COINS, (0, 4, 0), (0, 1, 0)), ((0, 4, 0), (1, 2, 1), (2, 0, 2)))

    def test_by_listing(self):
        several = 0
        for frame, prices, table, tables in cases(1, 250):
            wanted = least_plainly(("order", prices), tables)
            sums = sums_plainly(frame, table)
            self.assertEqual(cheapest(frame, table, prices), wanted)
            self.assertEqual(cheapest_in(frame, sums, prices), wanted)
            self.assertEqual(plain_cheapest(frame, sums, prices), wanted)
            self.assertEqual(cost(frame, wanted, prices), min(cost(frame, other, prices) for other in tables))
            for other in tables[:5] + [wanted]:
                self.assertIs(is_cheapest(frame, other, prices), other == wanted)
            several += len(tables) > 2
        self.assertGreater(several, 60)

    def test_falling_roads_step_by_step(self):
        long = 0
        for frame, prices, table, tables in cases(2, 200):
            rules = whole_rules(frame, ("order", prices))
            told = falling_road(frame, table, prices)
            self.assertEqual(told, tuple(path_plainly(rules, table)))
            self.assertEqual((type(told), told[-1]), (tuple, least_plainly(("order", prices), tables)))
            costs = [cost(frame, here, prices) for here in told]
            self.assertEqual(costs, sorted(costs, reverse=True))
            long += len(told) > 2
        self.assertGreater(long, 40)

    def test_like_prices_are_told_by_the_further_rows_of_the_order(self):
        for number in (0, 1, 99):
            self.assertEqual(cheapest(COINS, (0, 4, 0), (number,) * 3), (2, 0, 2))
        # By the total, and then by the last letter.
        frame = ("frame", ((1, 2),))
        self.assertEqual(cheapest(frame, (4, 0), (0, 0)), (0, 2))
        self.assertEqual(cheapest(frame, (4, 0), (1, 2)), (0, 2))
        self.assertEqual(cheapest(frame, (0, 2), (1, 3)), (4, 0))
        self.assertEqual(cheapest(TOTAL, (1, 1, 1), (0, 0, 0)), (0, 0, 3))

    def test_lots_without_tables(self):
        for sums in ((1, 4), (0, 1), (20000, 20)):
            for function in (cheapest_in, plain_cheapest):
                self.assertIs(type(self.error_of(function, {"frame": COINS, "sums": sums, "prices": (0, 0, 0)}, True)), EmptyLot)
        # An empty lot is told ahead of what the rules tell.
        frame = beside(NEAR_200, 8)
        good = {"frame": frame, "sums": (1, 1, 0, 0), "prices": (0,) * 14}
        self.assertIs(type(self.error_of(cheapest_in, good)), EmptyLot)
        self.too_many("rules", 200, cheapest_in, frame, (0, 0, 0, 0), (0,) * 14)
        self.assertEqual(cheapest_in(beside(NEAR_200, 7), (0, 0, 0, 1), (0,) * 13), (0,) * 12 + (1,))

    def test_great_lots(self):
        self.assertEqual(cheapest(TOTAL, (20000, 0, 0), (5, 4, 4)), (0, 0, 20000))
        self.assertEqual(cheapest_in(TOTAL, (20000,), (4, 5, 4)), (0, 0, 20000))
        self.assertEqual(cheapest_in(TOTAL, (20000,), (4, 5, 5)), (20000, 0, 0))
        self.assertIs(is_cheapest(TOTAL, (0, 0, 20000), (1, 1, 1)), True)
        self.too_many("tables", 2000, plain_cheapest, TOTAL, (62,), (0, 0, 0))
        self.assertEqual(plain_cheapest(TOTAL, (61,), (1, 0, 1)), (0, 61, 0))
        self.assertEqual(len(lot(TOTAL, (61,))), 1953)
        self.assertEqual(cheapest(BROAD, (1,) * 16, tuple(range(16, 0, -1))), (0,) * 15 + (16,))

    def test_2000_tables_of_a_falling_road_and_more(self):
        self.assertEqual(len(falling_road(PAIR, (1999, 0), (1, 0))), 2000)
        self.too_many("tables", 2000, falling_road, PAIR, (2000, 0), (1, 0))
        self.assertEqual(falling_road(PAIR, (2000, 0), (0, 1)), ((2000, 0),))
        self.assertEqual(cheapest(PAIR, (2000, 0), (1, 0)), (0, 2000))
        self.assertEqual(len(falling_road(PAIR, (2, 1998), (0, 1))), 1999)

    def test_too_many_rules(self):
        cells = len(NEAR_200[1][0])
        for function in BY_RULES.values():
            function(beside(NEAR_200, 7), (0,) * (cells + 7), (0,) * (cells + 7))
            self.too_many("rules", 200, function, beside(NEAR_200, 8), (0,) * (cells + 8), (0,) * (cells + 8))
            # The whole book is told, but too many rules of this order are.
            self.too_many("rules", 200, function, TURNED_200, (0,) * 8, (0, 99) * 4)
        self.too_many("rules", 200, cheapest_in, TURNED_200, (0, 0), (0, 99) * 4)
        self.assertEqual(plain_cheapest(TURNED_200, (0, 0), (0, 99) * 4), (0,) * 8)
        self.assertEqual(cheapest(linked(4), (0, 0, 0, 0), (0, 0, 0, 0)), (0, 0, 0, 0))

    def test_errors(self):
        good = {"frame": COINS, "table": (1, 2, 1), "prices": (0, 1, 0)}
        wrongs = [("frame", None, InvalidFrame), ("table", None, InvalidTable), ("prices", None, InvalidPrices)]
        for function in BY_RULES.values():
            self.refuses(function, good, "frame", InvalidFrame, WRONG_FRAMES)
            self.refuses(function, good, "table", InvalidTable, WRONG_TABLES)
            self.refuses(function, good, "prices", InvalidPrices, WRONG_PRICES)
            self.first_refused(function, good, wrongs)
            self.refuses(function, {"frame": TURNED_200, "table": (0,) * 8, "prices": None}, "prices", InvalidPrices, [None, (0,) * 7])
        good = {"frame": COINS, "sums": (4, 8), "prices": (0, 1, 0)}
        wrongs[1] = ("sums", None, InvalidSums)
        for function in (cheapest_in, plain_cheapest):
            self.refuses(function, good, "frame", InvalidFrame, WRONG_FRAMES)
            self.refuses(function, good, "sums", InvalidSums, WRONG_SUMS)
            self.refuses(function, good, "prices", InvalidPrices, WRONG_PRICES)
            self.first_refused(function, good, wrongs)
            self.refuses(function, {"frame": COINS, "sums": (1, 4), "prices": None}, "prices", InvalidPrices, [None])

    def test_arguments_stay(self):
        for function in BY_RULES.values():
            self.kept_and_new(function, SQUARE, (1, 0, 0, 2), (0, 1, 2, 3))
        for function in (cheapest_in, plain_cheapest):
            self.assertIs(type(self.kept_and_new(function, SQUARE, (1, 2, 1, 2), (0, 1, 2, 3))), tuple)
        draw = random.Random(3)
        for _ in range(10):
            self.assertEqual(cheapest(HIGH, tuple(range(16)), tuple(draw.randint(0, 99) for _ in range(16))), tuple(range(16)))
