"""Monomials and orders [7], [51]."""

import itertools
import random
import unittest

from sumroads.errors import InvalidMany, InvalidMonomial, InvalidOrder
from sumroads.orders import greater, is_monomial, is_order, sorted_by
from tests.helpers import Holds, Odd, odd_values

PLAIN, LAST = ("order", (0, 0)), ("order", (0, 1))
WRONG_ORDERS = [
    ("order", ()), ("order", [0]), ["order", (0,)], ("order", (100,)), ("order", (-1,)), ("order", (True,)),
    ("order", (0, False)), ("order", tuple([0] * 41)), ("order",), ("order", (0,), ()), ("orders", (0,)),
    ("frame", (0,)), (Odd(), (0,)), ("order", Odd()), ("order", (Odd(),)), ("order", ("0",)), ("order", None),
    (1, (0,)), None, 0, "order", Odd(), b"order", ("order", 0)]
WRONG_MONOMIALS = [
    (0,), (0, 0, 0), [0, 0], (0, 20001), (-1, 0), (True, 0), (0, False), (), None, 0, True, "00", Odd(), (Odd(), 0),
    (None, 0), ((0,), (0,)), b"00"]


def greater_plainly(order, one, other):
    """By the words of [7], one after another."""
    if one == other:
        return 0
    weighed = [sum(weight * count for weight, count in zip(order[1], row)) for row in (one, other)]
    if weighed[0] != weighed[1]:
        return 1 if weighed[0] > weighed[1] else -1
    if sum(one) != sum(other):
        return 1 if sum(one) > sum(other) else -1
    last = max(at for at in range(len(one)) if one[at] != other[at])
    return 1 if one[last] < other[last] else -1


class Orders(Holds, unittest.TestCase):
    def test_examples(self):
        self.assertEqual(
            [is_order(PLAIN), is_order(("order", ())), is_order(("order", [0])), is_monomial(2, (0, 20000)),
             is_monomial(2, (0, True))], [True, False, False, True, False])
        self.assertEqual(
            [greater(PLAIN, (1, 0), (0, 1)), greater(LAST, (1, 0), (0, 1)), greater(PLAIN, (0, 2), (9, 0)),
             sorted_by(PLAIN, [(1, 1), (0, 0), (0, 2), (1, 1)])], [1, -1, -1, [(0, 0), (0, 2), (1, 1)]])

    def test_is_order(self):
        self.asks(is_order, right=[PLAIN, LAST, ("order", (0,)), ("order", (99,)), ("order", tuple([99] * 40))],
                  wrong=WRONG_ORDERS + odd_values())
        self.assertIs(is_order(value=PLAIN), True)

    def test_is_monomial(self):
        self.asks(is_monomial, 2, right=[(0, 0), (20000, 20000)], wrong=WRONG_MONOMIALS + odd_values())
        self.asks(is_monomial, 1, right=[(0,), (20000,)], wrong=[(20001,), (True,), [0], ()])
        self.asks(is_monomial, 40, right=[tuple([20000] * 40)], wrong=[tuple([0] * 39), tuple([0] * 41)])
        self.assertIs(is_monomial(value=(1,), many=1), True)

    def test_by_its_words(self):
        draw = random.Random(1)
        for many in (1, 2, 3, 4, 40):
            for _ in range(200):
                order = ("order", tuple(draw.choice([0, 0, 1, 2, 99]) for _ in range(many)))
                size = draw.choice([1, 2, 20000])
                one = tuple(draw.randint(0, size) for _ in range(many))
                other = tuple(draw.randint(0, size) for _ in range(many))
                if draw.random() < 0.5:
                    other = tuple(sorted(one)) if draw.random() < 0.5 else one[::-1]
                self.assertEqual(greater(order, one, other), greater_plainly(order, one, other))
                self.assertEqual(greater(order, other, one), -greater(order, one, other))

    def test_the_three_rows_one_after_another(self):
        order = ("order", (1, 0, 2))
        self.assertEqual(greater(order, (0, 0, 1), (1, 9, 0)), 1)
        self.assertEqual(greater(order, (2, 0, 0), (0, 0, 1)), 1)
        self.assertEqual(greater(order, (2, 0, 0), (0, 1, 1)), 1)
        self.assertEqual(greater(order, (0, 1, 1), (2, 0, 0)), -1)
        self.assertEqual(greater(("order", (0, 0, 0)), (0, 2, 0), (1, 0, 1)), 1)
        self.assertEqual(greater(("order", (0, 0, 0)), (1, 1, 1), (2, 0, 1)), -1)
        self.assertEqual(greater(("order", (0, 0, 0)), (3, 0, 0), (3, 0, 0)), 0)
        self.assertEqual(greater(("order", tuple([0] * 39 + [1])), tuple([0] * 39 + [1]), tuple([20000] * 39 + [0])), 1)
        self.assertEqual(greater(other=(0, 1), one=(1, 0), order=PLAIN), 1)

    def test_facts(self):
        order = ("order", (1, 0, 1))
        rows = list(itertools.product(range(3), repeat=3))
        for one, other in itertools.product(rows, rows):
            told = greater(order, one, other)
            for more in rows[:9]:
                put = [tuple(a + b for a, b in zip(row, more)) for row in (one, other)]
                self.assertEqual(greater(order, *put), told)
            if one != other and all(a >= b for a, b in zip(one, other)):
                self.assertEqual(told, 1)

    def test_sorted_by(self):
        draw = random.Random(2)
        for _ in range(60):
            many = draw.choice([1, 2, 3, 5])
            order = ("order", tuple(draw.choice([0, 1, 5]) for _ in range(many)))
            rows = [tuple(draw.randint(0, 3) for _ in range(many)) for _ in range(draw.randint(0, 30))]
            told = sorted_by(order, rows)
            self.assertIs(type(told), list)
            self.assertEqual(sorted(told), sorted(set(rows)))
            for at in range(len(told) - 1):
                self.assertEqual(greater_plainly(order, told[at + 1], told[at]), 1)
            self.assertEqual(sorted_by(order, tuple(rows)), told)
        self.assertEqual(sorted_by(PLAIN, []), [])
        self.assertEqual(sorted_by(monomials=((2, 0), (2, 0)), order=PLAIN), [(2, 0)])

    def test_400_and_401(self):
        rows = [(at, 0) for at in range(400)]
        self.assertEqual(sorted_by(PLAIN, rows[::-1]), rows)
        self.assertEqual(sorted_by(PLAIN, [(0, 1)] * 400), [(0, 1)])
        good = {"order": PLAIN, "monomials": []}
        self.refuses(sorted_by, good, "monomials", InvalidMonomial, [
            rows + [(0, 0)], tuple(rows) + ((0, 1),), [(0, 0)] * 401, [None] * 401])

    def test_errors(self):
        wrong_many = [0, 41, -1, True, False, None, "2", (2,), Odd()]
        self.refuses(is_monomial, {"many": 2, "value": (0, 0)}, "many", InvalidMany, wrong_many)
        good = {"order": PLAIN, "one": (0, 1), "other": (1, 0)}
        self.refuses(greater, good, "order", InvalidOrder, WRONG_ORDERS)
        self.refuses(greater, good, "one", InvalidMonomial, WRONG_MONOMIALS)
        self.refuses(greater, good, "other", InvalidMonomial, WRONG_MONOMIALS)
        self.first_refused(greater, good, [
            ("order", None, InvalidOrder), ("one", (0,), InvalidMonomial), ("other", (0, True), InvalidMonomial)])
        good = {"order": PLAIN, "monomials": [(0, 1)]}
        self.refuses(sorted_by, good, "order", InvalidOrder, WRONG_ORDERS)
        self.refuses(sorted_by, good, "monomials", InvalidMonomial, [None, 1, True, "", {}, {(0, 0)}, Odd()])
        self.first_refused(sorted_by, good, [("order", None, InvalidOrder), ("monomials", None, InvalidMonomial)])

    def test_the_first_that_is_no_monomial(self):
        for wrong in WRONG_MONOMIALS:
            for rows in ([wrong], [(0, 0), wrong, None], ((1, 1), wrong, wrong)):
                caught = self.error_of(sorted_by, {"order": PLAIN, "monomials": rows})
                self.assertIs(type(caught), InvalidMonomial)
                self.assertIs(caught.value, wrong)

    def test_arguments_stay_and_lists_are_new(self):
        self.kept_and_new(sorted_by, PLAIN, [(1, 1), (0, 0), (0, 2), (1, 1)])
        self.kept_and_new(sorted_by, PLAIN, [])
        self.kept_and_new(greater, PLAIN, (1, 1), (0, 2))
