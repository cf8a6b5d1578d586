"""Tables by their numbers [34], the first, the last and the next one."""

import math
import unittest

from sumroads.errors import InvalidFrame, InvalidNumber, InvalidSums, InvalidTable
from sumroads.ranking import greatest_table, least_table, next_table, number_of, table_at
from tests.helpers import BROAD, COINS, HIGH, Holds, Odd, SQUARE, TOTAL, WRONG_FRAMES
from tests.test_lots import WRONG_SUMS, WRONG_TABLES, cases

ONE = ("frame", ((1,),))


class Ranking(Holds, unittest.TestCase):
    def test_examples(self):
        self.assertEqual(
            [table_at(COINS, (4, 8), 1), number_of(COINS, (2, 0, 2)), least_table(COINS, (4, 8)),
             greatest_table(SQUARE, (1, 2, 1, 2)), least_table(COINS, (1, 4)), next_table(COINS, (1, 2, 1)),
             next_table(COINS, (2, 0, 2))],
            [(1, 2, 1), 2, (0, 4, 0), (1, 0, 0, 2), None, (2, 0, 2), None])

    def test_by_listing(self):
        for frame, sums, wanted in cases(4, 300):
            self.assertEqual(least_table(frame, sums), wanted[0] if wanted else None)
            self.assertEqual(greatest_table(frame, sums), wanted[-1] if wanted else None)
            for number, table in enumerate(wanted[:40]):
                self.assertEqual(table_at(frame, sums, number), table)
                self.assertEqual(number_of(frame, table), number)
                behind = wanted[number + 1] if number + 1 < len(wanted) else None
                self.assertEqual(next_table(frame, table), behind)
            self.refuses(table_at, {"frame": frame, "sums": sums, "number": 0}, "number", InvalidNumber, [len(wanted)])

    def test_lots_that_can_not_be_listed(self):
        many = math.comb(1015, 15)
        for number in (0, 1, many // 3, many - 2, many - 1):
            table = table_at(BROAD, (1000,), number)
            self.assertEqual(sum(table), 1000)
            self.assertEqual(number_of(BROAD, table), number)
            behind = next_table(BROAD, table)
            self.assertEqual(behind, table_at(BROAD, (1000,), number + 1) if number < many - 1 else None)
        self.assertEqual(least_table(BROAD, (20000,)), tuple([0] * 15 + [20000]))
        self.assertEqual(greatest_table(BROAD, (20000,)), tuple([20000] + [0] * 15))
        self.assertEqual(next_table(BROAD, tuple([0] * 15 + [20000])), tuple([0] * 14 + [1, 19999]))
        self.assertEqual(next_table(SQUARE, (0, 9000, 9000, 0)), (1, 8999, 8999, 1))
        self.assertIs(next_table(HIGH, tuple(range(16))), None)
        self.assertEqual(least_table(HIGH, tuple(range(16))), tuple(range(16)))
        self.assertEqual(greatest_table(COINS, (9000, 18001)), (4499, 1, 4500))
        self.assertIs(greatest_table(COINS, (5, 20000)), None)

    def test_next_ones_go_through_the_lot(self):
        table, found = least_table(TOTAL, (9,)), []
        while table is not None:
            found.append(table)
            table = next_table(TOTAL, table)
        self.assertEqual(found, sorted(found))
        self.assertEqual(len(found), math.comb(11, 2))

    def test_20000_states_and_more(self):
        self.assertEqual(table_at(ONE, (19998,), 0), (19998,))
        self.assertEqual(number_of(ONE, (19998,)), 0)
        for number in (0, 1, -1, None, True):
            self.too_many("states", 20000, table_at, ONE, (19999,), number)
        self.too_many("states", 20000, number_of, ONE, (19999,))
        self.assertEqual(least_table(ONE, (19999,)), (19999,))
        self.assertEqual(greatest_table(ONE, (20000,)), (20000,))
        self.assertIs(next_table(ONE, (20000,)), None)

    def test_errors(self):
        good = {"frame": COINS, "sums": (4, 8), "number": 0}
        self.refuses(table_at, good, "frame", InvalidFrame, WRONG_FRAMES)
        self.refuses(table_at, good, "sums", InvalidSums, WRONG_SUMS)
        wrong = [3, -1, True, False, None, "0", (0,), [0], Odd(), 10 ** 20]
        self.refuses(table_at, good, "number", InvalidNumber, wrong)
        self.first_refused(table_at, good, [
            ("frame", None, InvalidFrame), ("sums", None, InvalidSums), ("number", None, InvalidNumber)])
        for function in (number_of, next_table):
            good = {"frame": COINS, "table": (1, 2, 1)}
            self.refuses(function, good, "frame", InvalidFrame, WRONG_FRAMES)
            self.refuses(function, good, "table", InvalidTable, WRONG_TABLES)
            self.first_refused(function, good, [("frame", None, InvalidFrame), ("table", None, InvalidTable)])
        for function in (least_table, greatest_table):
            good = {"frame": COINS, "sums": (4, 8)}
            self.refuses(function, good, "frame", InvalidFrame, WRONG_FRAMES)
            self.refuses(function, good, "sums", InvalidSums, WRONG_SUMS)
            self.first_refused(function, good, [("frame", None, InvalidFrame), ("sums", None, InvalidSums)])

    def test_arguments_stay(self):
        self.kept_and_new(table_at, COINS, (4, 8), 2)
        self.kept_and_new(number_of, COINS, (1, 2, 1))
        self.kept_and_new(next_table, COINS, (1, 2, 1))
        self.kept_and_new(least_table, COINS, (4, 8))
        self.kept_and_new(greatest_table, COINS, (4, 8))
