"""Rows [11]: added, taken, multiplied, heads, divisors, shares."""

import math
import random
import unittest

from sumroads.errors import InvalidInteger, InvalidRow, UnlikeLengths
from sumroads.rows import added, divisor, head, is_row, is_share, product, share, taken
from tests.helpers import Holds, Odd, odd_values

MILLION = 10 ** 6
LONG = tuple(range(-20, 20))
RIGHT = [(0,), (0, 0), (MILLION,), (-MILLION, MILLION), LONG, tuple([0] * 40), (5, 0, -5)]
WRONG = [
    (), tuple([0] * 41), (MILLION + 1,), (-MILLION - 1,), (True,), (1, False), [1, 2], (1, "2"), (None,), ((1,),),
    "12", b"12", range(2), {1: 1}, None, 1, True, (Odd(),), Odd(),
]


def random_rows(seed, many):
    draw = random.Random(seed)
    for _ in range(many):
        size = draw.choice([1, 3, 12, 1000, MILLION])
        yield tuple(draw.choice([0, draw.randint(-size, size)]) for _ in range(draw.choice([1, 2, 3, 7, 40])))


class Rows(Holds, unittest.TestCase):
    def test_examples(self):
        self.assertEqual(
            [added((1, -2), (0, 5)), taken((3, 0), -2), product((1, 2), (3, -1)), head((0, 0, 4)), head((0,)),
             divisor((6, -10, 0)), divisor((0, 0)), is_row((10 ** 6,)), is_row(())],
            [(1, 3), (-6, 0), 1, 2, None, 2, 0, True, False])
        self.assertEqual(
            [is_share((6, -10), (2, 1)), is_share((6, -10), (0, 1)), is_share((6, -10), share((6, -10))),
             is_share((0,), (7,))], [True, False, True, True])

    def test_is_row(self):
        self.asks(is_row, right=RIGHT, wrong=WRONG)
        self.asks(is_row, wrong=[value for value in odd_values()])
        self.assertIs(is_row(value=(1, 2)), True)

    def test_added_and_product(self):
        for row in RIGHT:
            other = tuple(number % 7 for number in row)
            self.assertEqual(added(row, other), tuple(a + b for a, b in zip(row, other)))
            self.assertEqual(product(row, other), sum(a * b for a, b in zip(row, other)))
        self.assertEqual(added((MILLION,), (MILLION,)), (2 * MILLION,))
        self.assertEqual(product((MILLION, -MILLION), (MILLION, MILLION)), 0)
        self.assertEqual(product((MILLION,), (MILLION,)), MILLION * MILLION)
        self.assertEqual(added(one=(1,), other=(2,)), (3,))
        self.assertEqual(product(other=(4,), one=(2,)), 8)

    def test_taken(self):
        self.assertEqual(taken((3, -1), 0), (0, 0))
        self.assertEqual(taken((MILLION, -1), -MILLION), (-MILLION * MILLION, MILLION))
        self.assertEqual(taken(many=3, row=LONG), tuple(3 * number for number in LONG))

    def test_head(self):
        self.assertIs(head(tuple([0] * 40)), None)
        self.assertEqual(head(tuple([0] * 39 + [-1])), 39)
        self.assertEqual(head(row=(-1, 0)), 0)

    def test_divisor(self):
        for row in random_rows(1, 300):
            self.assertEqual(divisor(row), math.gcd(*row))
        self.assertEqual(divisor((-4,)), 4)
        self.assertEqual(divisor(row=(0, -6, 9)), 3)

    def test_share(self):
        for row in list(random_rows(2, 400)) + RIGHT:
            told = share(row)
            self.assertIs(type(told), tuple)
            self.assertEqual(len(told), len(row))
            self.assertTrue(all(type(part) is int and abs(part) < 10 ** 400 for part in told))
            self.assertEqual(sum(a * b for a, b in zip(row, told)), math.gcd(*row))
            self.assertIs(is_share(row, told), True)
            self.assertEqual(share(row), told)

    def test_share_of_what_has_a_late_divisor(self):
        primes = [p for p in range(2, 180) if all(p % q for q in range(2, p))][:7]
        whole = math.prod(primes)
        row = tuple(whole // p for p in primes)
        self.assertIs(is_share(row, share(row)), True)
        self.assertEqual(divisor(row), 1)

    def test_is_share(self):
        self.asks(is_share, (6, -10), right=[(2, 1), (-3, -2), (7, 4)], wrong=[
            (0, 1), (2, 1, 0), (2,), [2, 1], (2, True), (-2, -1), (), "21", ((2, 1),), (Odd(), 1)])
        self.asks(is_share, (6, -10), wrong=odd_values())
        self.asks(is_share, (1, 0), right=[(1, 0), (1, 5)], wrong=[(True, 0), (1, False), (0, 1)])
        self.asks(is_share, (0,), right=[(0,), (10 ** 29,)], wrong=[(False,), (None,), ()])
        self.assertIs(is_share(value=(1,), row=(5,)), True)

    def test_errors(self):
        for function in (added, product):
            good = {"one": (1, 2), "other": (3, 4)}
            self.refuses(function, good, "one", InvalidRow, WRONG)
            self.refuses(function, good, "other", InvalidRow, WRONG)
            self.first_refused(function, good, [("one", [1, 2], InvalidRow), ("other", (True,), InvalidRow)])
            self.assertIs(type(self.error_of(function, {"one": (1,), "other": (1, 2)})), UnlikeLengths)
            self.assertIs(type(self.error_of(function, {"one": (1, 2), "other": [1]})), InvalidRow)
        for function in (head, divisor, share):
            self.refuses(function, {"row": (1,)}, "row", InvalidRow, WRONG)
        self.refuses(is_share, {"row": (1,), "value": (1,)}, "row", InvalidRow, WRONG)
        good = {"row": (1,), "many": 2}
        self.refuses(taken, good, "row", InvalidRow, WRONG)
        self.refuses(taken, good, "many", InvalidInteger, [
            True, False, None, "1", MILLION + 1, -MILLION - 1, (1,), [1], Odd(), b""])
        self.first_refused(taken, good, [("row", (), InvalidRow), ("many", True, InvalidInteger)])
