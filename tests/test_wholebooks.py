"""Whole books and whole rules [74], [75], held against listed lots."""

import unittest

from sumroads.ends import end_of
from sumroads.errors import InvalidFrame, InvalidOrder, InvalidTable
from sumroads.moves import is_book
from sumroads.reduced import is_reduced, reduced_book
from sumroads.saturation import rules_by_lending
from sumroads.elimination import rules_by_sums
from sumroads.wholebooks import end_in_lot, whole_book, whole_rules
from tests.helpers import BROAD, COINS, HIGH, Holds, SQUARE, TOTAL, WRONG_FRAMES, lot_plainly, sums_plainly
from tests.test_elimination import NEAR_200, STEPS, beside, cube_of, linked, small_frames
from tests.test_lots import WRONG_TABLES
from tests.test_orders import WRONG_ORDERS, greater_plainly
from tests.walking import distances_plainly

EARLY = ("order", (1, 0, 0))
# 59 moves; a further total of k cells has k - 1.
NEAR_60 = ("frame", ((0, 9, 6, 6, 6, 5, 4), (5, 7, 3, 9, 8, 2, 0)))
TO_99 = ("frame", ((5, 1, 2, 0), (8, 0, 1, 0), (0, 4, 0, 9)))
TO_100 = ("frame", ((6, 0, 5, 5), (3, 0, 6, 1), (0, 4, 3, 2)))
TURNED_200 = ("frame", ((1, 3, 9, 1, 1, 7, 9, 4), (6, 1, 6, 6, 7, 8, 7, 9)))
GRID = ("frame", tuple(tuple(int(cell // 3 == row) for cell in range(9)) for row in range(3)) + tuple(
    tuple(int(cell % 3 == column) for cell in range(9)) for column in range(3)))


def random_order(draw, cells):
    return ("order", tuple(draw.choice([0, 0, 1, 2, 99]) for _ in range(cells)))


def least_plainly(order, tables):
    least = tables[0]
    for table in tables:
        if greater_plainly(order, least, table) == 1:
            least = table
    return least


class WholeBooks(Holds, unittest.TestCase):
    def test_examples(self):
        self.assertEqual(
            [whole_book(STEPS), whole_rules(STEPS, EARLY), end_in_lot(STEPS, EARLY, (2, 0, 1)),
             whole_book(("frame", ((1, 0), (0, 1))))],
            [((1, -2, 1),), (((1, 0, 1), (0, 2, 0)),), (1, 2, 0), ()])

    def test_moves_of_the_whole_rules(self):
        for _, frame in small_frames(1, 100, 5, 3, 4):
            told = whole_book(frame)
            self.assertIs(is_book(frame, told), True)
            moves = set()
            for ahead, behind in rules_by_lending(frame):
                change = tuple(a - b for a, b in zip(ahead, behind))
                self.assertTrue(all(min(a, b) == 0 for a, b in zip(ahead, behind)))
                moves.add(max(change, tuple(-number for number in change)))
            self.assertEqual(told, tuple(sorted(moves)))

    def test_all_tables_of_each_lot_are_joined(self):
        lots = 0
        for draw, frame in small_frames(2, 60):
            book = whole_book(frame)
            for _ in range(4):
                table = tuple(draw.randint(0, 3) for _ in frame[1][0])
                tables = lot_plainly(frame, sums_plainly(frame, table))
                self.assertEqual(set(distances_plainly(book, table)), set(tables))
                lots += len(tables) > 1
        self.assertGreater(lots, 80)

    def test_whole_rules(self):
        for draw, frame in small_frames(3, 80):
            cells = len(frame[1][0])
            nought = ("order", (0,) * cells)
            self.assertEqual(whole_rules(frame, nought), rules_by_sums(frame))
            for _ in range(3):
                order = random_order(draw, cells)
                told = whole_rules(frame, order)
                self.assertIs(is_reduced(order, told), True)
                self.assertEqual(told, reduced_book(frame, order, whole_book(frame)))
                self.assertTrue(all(sums_plainly(frame, a) == sums_plainly(frame, b) for a, b in told))

    def test_ends_are_the_least_tables(self):
        unlike = 0
        for draw, frame in small_frames(4, 80):
            cells = len(frame[1][0])
            for _ in range(3):
                order = random_order(draw, cells)
                table = tuple(draw.randint(0, 3) for _ in range(cells))
                tables = lot_plainly(frame, sums_plainly(frame, table))
                told = end_in_lot(frame, order, table)
                self.assertEqual(told, least_plainly(order, tables))
                self.assertEqual(told, end_of(order, whole_rules(frame, order), table))
                unlike += told != table
        self.assertGreater(unlike, 50)

    def test_greater_frames(self):
        self.assertEqual(len(whole_book(BROAD)), 15)
        self.assertEqual(whole_book(HIGH), ())
        self.assertEqual(len(whole_book(GRID)), 9)
        self.assertEqual(whole_book(cube_of(2, 2, 2)), ((1, -1, -1, 1, -1, 1, 1, -1),))
        self.assertEqual(whole_rules(HIGH, ("order", (99,) * 16)), ())
        self.assertEqual(end_in_lot(HIGH, ("order", (99,) * 16), tuple(range(16))), tuple(range(16)))
        self.assertEqual(end_in_lot(BROAD, ("order", (0,) * 15 + (1,)), (0,) * 15 + (20000,)), (0,) * 14 + (20000, 0))

    def test_60_moves_and_more(self):
        self.assertEqual(len(whole_book(NEAR_60)), 59)
        self.assertEqual(len(whole_book(beside(NEAR_60, 2))), 60)
        self.too_many("moves", 60, whole_book, beside(NEAR_60, 3))
        self.assertEqual(len(whole_rules(beside(NEAR_60, 3), ("order", (0,) * 10))), 61)

    def test_numbers_to_99_and_more(self):
        self.assertEqual(whole_book(linked(3)), ((1, -9, 81),))
        self.assertEqual(whole_book(("frame", ((9, 1, 0), (0, 9, 1)))), ((1, -9, 81),))
        self.assertEqual(whole_book(TO_99), ((9, 99, -72, -44),))
        self.too_many("moves", 60, whole_book, TO_100)
        self.too_many("moves", 60, whole_book, linked(4))
        # The moves made on the way are free.
        self.assertEqual(whole_rules(linked(4), ("order", (0, 0, 0, 0))), (((0, 9, 0, 729), (1, 0, 81, 0)),))
        self.assertEqual(end_in_lot(linked(4), ("order", (0, 0, 0, 0)), (0, 10, 0, 730)), (1, 1, 81, 1))

    def test_rules_and_counts(self):
        for frame, what, limit in ((beside(NEAR_200, 8), "rules", 200), (linked(6), "counts", 20000)):
            order = ("order", (0,) * len(frame[1][0]))
            self.too_many(what, limit, whole_book, frame)
            self.too_many(what, limit, whole_rules, frame, order)
            self.too_many(what, limit, end_in_lot, frame, order, (0,) * len(frame[1][0]))
        # In another order there may be more of them.
        self.assertEqual(len(whole_rules(TURNED_200, ("order", (0,) * 8))), len(rules_by_sums(TURNED_200)))
        for function, told in ((whole_rules, ()), (end_in_lot, ((0,) * 8,))):
            self.too_many("rules", 200, function, TURNED_200, ("order", (0, 99) * 4), *told)

    def test_errors(self):
        self.refuses(whole_book, {"frame": COINS}, "frame", InvalidFrame, WRONG_FRAMES)
        orders = WRONG_ORDERS + [("order", (0, 0)), ("order", (0,) * 4)]
        good = {"frame": COINS, "order": EARLY, "table": (1, 2, 1)}
        self.refuses(end_in_lot, good, "frame", InvalidFrame, WRONG_FRAMES)
        self.refuses(end_in_lot, good, "order", InvalidOrder, orders)
        self.refuses(end_in_lot, good, "table", InvalidTable, WRONG_TABLES)
        self.first_refused(end_in_lot, good, [
            ("frame", None, InvalidFrame), ("order", ("order", (0, 0)), InvalidOrder), ("table", None, InvalidTable)])
        good = {"frame": COINS, "order": EARLY}
        self.refuses(whole_rules, good, "frame", InvalidFrame, WRONG_FRAMES)
        self.refuses(whole_rules, good, "order", InvalidOrder, orders)
        self.first_refused(whole_rules, good, [("frame", None, InvalidFrame), ("order", None, InvalidOrder)])
        # A wrong value comes ahead of too many.
        good = {"frame": beside(NEAR_200, 8), "order": ("order", (0,) * 14), "table": (0,) * 14}
        self.refuses(end_in_lot, good, "table", InvalidTable, [None, (0,) * 13])
        self.refuses(end_in_lot, good, "order", InvalidOrder, [None, EARLY])

    def test_arguments_stay(self):
        self.assertIs(type(self.kept_and_new(whole_book, SQUARE)), tuple)
        self.kept_and_new(whole_rules, STEPS, EARLY)
        self.kept_and_new(end_in_lot, STEPS, EARLY, (2, 0, 1))
        self.assertEqual(whole_book(frame=TOTAL), ((0, 1, -1), (1, 0, -1)))
        self.assertEqual(end_in_lot(table=(2, 0, 1), order=EARLY, frame=STEPS), (1, 2, 0))
        self.assertIs(is_reduced(EARLY, whole_rules(order=EARLY, frame=COINS)), True)
