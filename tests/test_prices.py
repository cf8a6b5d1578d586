"""Prices, costs, orders by prices [131]."""

import random
import unittest

from sumroads.errors import InvalidFrame, InvalidPrices, InvalidTable
from sumroads.orders import is_order
from sumroads.prices import cost, is_prices, price_order
from tests.helpers import BROAD, COINS, HIGH, Holds, Odd, WRONG_FRAMES, odd_values
from tests.test_lots import WRONG_TABLES

WRONG_PRICES = [
    (0, 1), (0, 1, 0, 0), [0, 1, 0], (0, True, 0), (False, 0, 0), (0, -1, 0), (0, 100, 0), (), None, 1, True, "010", Odd(),
    (Odd(), 0, 0), (None, 0, 0), {0, 1, 2}]


class Prices(Holds, unittest.TestCase):
    def test_examples(self):
        self.assertEqual(
            [is_prices(COINS, (0, 1, 0)), is_prices(COINS, (0, 100, 0)), is_prices(COINS, [0, 1, 0]),
             cost(COINS, (1, 2, 1), (1, 0, 5)), price_order(COINS, (0, 1, 0))], [True, False, False, 6, ("order", (0, 1, 0))])

    def test_is_prices(self):
        self.asks(is_prices, COINS, right=[(0, 0, 0), (99, 99, 99), (1, 0, 99)], wrong=WRONG_PRICES + odd_values())
        self.asks(is_prices, ("frame", ((9,),)), right=[(0,), (99,)], wrong=[(), (100,), (0, 0)])
        self.asks(is_prices, BROAD, right=[(99,) * 16], wrong=[(99,) * 15, (99,) * 17, (99,) * 15 + (100,)])
        self.assertIs(is_prices(value=(0, 0, 0), frame=COINS), True)

    def test_costs_and_orders(self):
        draw = random.Random(1)
        for _ in range(100):
            table = tuple(draw.randint(0, 9) for _ in range(16))
            prices = tuple(draw.choice([0, 1, 7, 99]) for _ in range(16))
            self.assertEqual(cost(HIGH, table, prices), sum(a * b for a, b in zip(table, prices)))
            self.assertEqual(price_order(BROAD, prices), ("order", prices))
            self.assertIs(is_order(price_order(BROAD, prices)), True)
        self.assertEqual(cost(prices=(99,) * 16, table=(20000,) * 16, frame=HIGH), 99 * 16 * 20000)
        self.assertEqual(cost(COINS, (0, 0, 0), (99, 99, 99)), 0)
        self.assertEqual(price_order(prices=(0, 0, 0), frame=COINS), ("order", (0, 0, 0)))

    def test_errors(self):
        self.refuses(is_prices, {"frame": COINS, "value": ()}, "frame", InvalidFrame, WRONG_FRAMES)
        good = {"frame": COINS, "table": (1, 2, 1), "prices": (0, 1, 0)}
        self.refuses(cost, good, "frame", InvalidFrame, WRONG_FRAMES)
        self.refuses(cost, good, "table", InvalidTable, WRONG_TABLES)
        self.refuses(cost, good, "prices", InvalidPrices, WRONG_PRICES)
        wrongs = [("frame", None, InvalidFrame), ("table", None, InvalidTable), ("prices", None, InvalidPrices)]
        self.first_refused(cost, good, wrongs)
        good = {"frame": COINS, "prices": (0, 1, 0)}
        self.refuses(price_order, good, "frame", InvalidFrame, WRONG_FRAMES)
        self.refuses(price_order, good, "prices", InvalidPrices, WRONG_PRICES)
        self.first_refused(price_order, good, [wrongs[0], wrongs[2]])
