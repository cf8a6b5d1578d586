"""Closed lots and parts [6], [46] to [48]."""

import unittest

from sumroads.closedlots import closed_lot, is_closed_lot, parted, parts_of_lot
from sumroads.errors import InvalidBook, InvalidFrame, InvalidSums, InvalidTable
from sumroads.moves import book_of
from tests.helpers import BROAD, COINS, HIGH, Holds, Odd, TOTAL, WRONG_FRAMES, odd_values, sums_plainly
from tests.test_lots import WRONG_SUMS, WRONG_TABLES
from tests.test_moves import unit_moves
from tests.test_roads import ONE, ONE_UP, PAIR, TWO, WRONG_BOOKS
from tests.walking import distances_plainly, random_books


class ClosedLots(Holds, unittest.TestCase):
    def test_examples(self):
        self.assertEqual(
            [closed_lot(COINS, TWO, (2, 0, 2)), is_closed_lot(COINS, TWO, [(0, 4, 0), (2, 0, 2)]),
             is_closed_lot(COINS, TWO, [(0, 4, 0)]), is_closed_lot(COINS, ONE, [])],
            [[(0, 4, 0), (2, 0, 2)], True, False, False])
        self.assertEqual(
            [parts_of_lot(COINS, TWO, (4, 8)), parted(COINS, TWO, (4, 8)), parted(COINS, ONE, (4, 8)),
             parts_of_lot(COINS, ONE, (1, 4))],
            [[[(0, 4, 0), (2, 0, 2)], [(1, 2, 1)]], ((0, 4, 0), (1, 2, 1)), None, []])

    def test_by_plain_walks(self):
        more = 0
        for frame, book, table, tables in random_books(3, 200):
            wanted = sorted(distances_plainly(book, table))
            self.assertEqual(closed_lot(frame, book, table), wanted)
            self.assertIs(is_closed_lot(frame, book, wanted), True)
            self.assertIs(is_closed_lot(frame, book, tuple(wanted)), True)
            for at in range(min(len(wanted), 6)):
                self.assertIs(is_closed_lot(frame, book, wanted[:at] + wanted[at + 1:]), False)
            parts = sorted({tuple(sorted(distances_plainly(book, other))) for other in tables})
            self.assertEqual(parts_of_lot(frame, book, sums_plainly(frame, table)), [list(part) for part in parts])
            two = parted(frame, book, sums_plainly(frame, table))
            self.assertEqual(two, (parts[0][0], parts[1][0]) if len(parts) > 1 else None)
            if len(parts) > 1:
                more += 1
                both = sorted(parts[0] + parts[1])
                self.assertIs(is_closed_lot(frame, book, both), False)
        self.assertGreater(more, 50)

    def test_is_closed_lot(self):
        whole = [(0, 4, 0), (1, 2, 1), (2, 0, 2)]
        self.asks(is_closed_lot, COINS, ONE, right=[whole, tuple(whole), [(0, 0, 0)], [(0, 0, 7)]], wrong=[
            (), whole[::-1], whole + whole[-1:], whole[:2], whole + [(3, 0, 3)], whole + [None], [list(whole[0])] + whole[1:],
            [(0, 4, 0), (True, 2, 1), (2, 0, 2)], [(0, 4), (1, 2)], whole[0], {table: 1 for table in whole}, Odd(), [Odd()],
            [(0, 0, 0)] + whole, set(whole), "whole", [(0, 0, 20000)]])
        self.asks(is_closed_lot, COINS, ONE, wrong=odd_values())
        self.asks(is_closed_lot, COINS, (), right=[[(1, 2, 1)]], wrong=[whole])
        self.assertIs(is_closed_lot(value=[(0, 1), (1, 0)], book=ONE_UP, frame=PAIR), True)

    def test_2000_tables_and_more(self):
        told = closed_lot(PAIR, ONE_UP, (7, 1992))
        self.assertEqual(told, [(at, 1999 - at) for at in range(2000)])
        self.assertIs(is_closed_lot(PAIR, ONE_UP, told), True)
        self.assertIs(is_closed_lot(PAIR, ONE_UP, told[:1999]), False)
        self.assertIs(is_closed_lot(PAIR, ONE_UP, [(0, 2000)]), False)
        self.too_many("tables", 2000, closed_lot, PAIR, ONE_UP, (7, 1993))
        self.too_many("tables", 2000, closed_lot, BROAD, book_of(BROAD, unit_moves(16)[:60]), tuple([1250] * 16))
        self.assertEqual(len(closed_lot(PAIR, ((2, -2),), (0, 3998))), 2000)
        self.too_many("tables", 2000, closed_lot, PAIR, ((2, -2),), (0, 4000))
        self.assertEqual(parts_of_lot(PAIR, ONE_UP, (1999,)), [told])
        self.assertEqual(len(parts_of_lot(PAIR, (), (1999,))), 2000)
        self.assertEqual(parted(PAIR, (), (1999,)), ((0, 1999), (1, 1998)))
        for function in (parts_of_lot, parted):
            for book in ((), ONE_UP, ((99, -99),)):
                self.too_many("tables", 2000, function, PAIR, book, (2000,))

    def test_lots_of_one_table_and_of_none(self):
        for book in ((), ONE):
            self.assertEqual(parts_of_lot(COINS, book, (0, 0)), [[(0, 0, 0)]])
            self.assertIs(parted(COINS, book, (0, 0)), None)
            self.assertIs(parted(COINS, book, (1, 4)), None)
        self.assertEqual(closed_lot(HIGH, (), tuple(range(16))), [tuple(range(16))])
        self.assertEqual(parts_of_lot(sums=(1,), book=((1, 0, -1),), frame=TOTAL), [
            [(0, 0, 1), (1, 0, 0)], [(0, 1, 0)]])
        self.assertEqual(parted(sums=(1,), book=((1, 0, -1),), frame=TOTAL), ((0, 0, 1), (0, 1, 0)))
        self.assertEqual(closed_lot(table=(0, 1, 0), book=((1, 0, -1),), frame=TOTAL), [(0, 1, 0)])

    def test_errors(self):
        good = {"frame": COINS, "book": ONE, "table": (1, 2, 1)}
        self.refuses(closed_lot, good, "frame", InvalidFrame, WRONG_FRAMES)
        self.refuses(closed_lot, good, "book", InvalidBook, WRONG_BOOKS)
        self.refuses(closed_lot, good, "table", InvalidTable, WRONG_TABLES)
        self.first_refused(closed_lot, good, [
            ("frame", None, InvalidFrame), ("book", None, InvalidBook), ("table", None, InvalidTable)])
        for function in (parts_of_lot, parted):
            good = {"frame": COINS, "book": ONE, "sums": (4, 8)}
            self.refuses(function, good, "frame", InvalidFrame, WRONG_FRAMES)
            self.refuses(function, good, "book", InvalidBook, WRONG_BOOKS)
            self.refuses(function, good, "sums", InvalidSums, WRONG_SUMS)
            self.first_refused(function, good, [
                ("frame", None, InvalidFrame), ("book", None, InvalidBook), ("sums", None, InvalidSums)])
        good = {"frame": COINS, "book": ONE, "value": ()}
        self.refuses(is_closed_lot, good, "frame", InvalidFrame, WRONG_FRAMES)
        self.refuses(is_closed_lot, good, "book", InvalidBook, WRONG_BOOKS)

    def test_arguments_stay_and_lists_are_new(self):
        self.kept_and_new(closed_lot, COINS, ONE, (1, 2, 1))
        self.kept_and_new(is_closed_lot, COINS, ONE, [(0, 4, 0), (1, 2, 1), (2, 0, 2)])
        self.kept_and_new(parts_of_lot, COINS, TWO, (4, 8))
        self.kept_and_new(parts_of_lot, COINS, TWO, (1, 4))
        self.kept_and_new(parted, COINS, TWO, (4, 8))
