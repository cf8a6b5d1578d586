"""Ceilings and straight roads [105] to [108], held against walks under ceilings."""

import itertools
import random
import unittest

from sumroads.ceilings import closed_lot_under, is_straight_road, lot_under, straight_road, whole_under, whole_under_all
from sumroads.deciding import is_whole_book
from sumroads.errors import InvalidBook, InvalidCeilings, InvalidFrame, InvalidSums, InvalidTable, UnlikeSums
from sumroads.kernels import basis
from sumroads.moves import book_of
from sumroads.unparted import unparted
from sumroads.wholebooks import whole_book
from tests.helpers import BROAD, COINS, HIGH, Holds, Odd, SQUARE, TOTAL, WRONG_FRAMES, lot_plainly, odd_values, sums_plainly
from tests.parting import is_unparted_plainly, unparted_by_sums
from tests.test_deciding import frames_and_books
from tests.test_elimination import linked, small_frames
from tests.test_lots import WRONG_SUMS, WRONG_TABLES
from tests.test_moves import unit_moves
from tests.test_roads import WRONG_BOOKS
from tests.test_unparted import GREAT, SIDE_200, WORTH, grid
from tests.walking import steps_plainly

TWO = ((0, 1, -1), (1, -1, 0))
SQUARE_BOOK = ((1, -1, -1, 1),)
PAIR, ONE_UP = ("frame", ((1, 1),)), ((1, -1),)
WRONG_CEILINGS = [
    (1, 1), (1, 1, 1, 1), [1, 1, 1], (1, True, 1), (False, 0, 0), (1, -1, 1), (20001, 0, 0), (), None, 1, "111", Odd(),
    (Odd(), 1, 1), (None, 0, 0)]


def is_under_plainly(table, ceilings):
    return all(count <= most for count, most in zip(table, ceilings))


def closed_under_plainly(book, ceilings, table):
    seen, edge = {table}, {table}
    while edge:
        edge = {other for here in edge for other in steps_plainly(book, here) if is_under_plainly(other, ceilings)} - seen
        seen |= edge
    return sorted(seen)


def is_straight_plainly(frame, table, other, value):
    if type(value) is not tuple or not value or value[0] != table or value[-1] != other:
        return False
    for here, there in zip(value, value[1:]):
        step = tuple(b - a for a, b in zip(here, there))
        if sums_plainly(frame, there) != sums_plainly(frame, here) or not is_unparted_plainly(frame, step):
            return False
        if not all(min(a, c) <= b <= max(a, c) for a, b, c in zip(here, there, other)):
            return False
    return True


def cases(seed, many):
    """Frames and books with a table, its lot and ceilings under which some of it is."""
    for draw, frame, book in frames_and_books(seed, many):
        table = tuple(draw.randint(0, 3) for _ in frame[1][0])
        tables = lot_plainly(frame, sums_plainly(frame, table))
        one, other = draw.choice(tables), draw.choice(tables)
        ceilings = tuple(max(a, b) + draw.choice([0, 0, 0, 1]) for a, b in zip(one, other))
        yield draw, frame, book, one, tables, ceilings


class Ceilings(Holds, unittest.TestCase):
    def test_examples(self):
        self.assertEqual(
            [whole_under_all(TOTAL, TWO), whole_under_all(TOTAL, TWO + ((1, 0, -1),)), lot_under(TOTAL, (2,), (1, 0, 2)),
             closed_lot_under(TOTAL, TWO, (1, 0, 2), (0, 0, 2)), whole_under(TOTAL, TWO, (2, 1, 2), (2,))],
            [("ceilings", (1, 0, 1), (1, 0, 0), (0, 0, 1)), ("all",), [(0, 0, 2), (1, 0, 1)], [(0, 0, 2)], True])
        self.assertEqual(
            [is_straight_road(TOTAL, (2, 0, 0), (0, 1, 1), ((2, 0, 0), (1, 1, 0), (0, 1, 1))),
             is_straight_road(TOTAL, (1, 0, 0), (0, 0, 1), ((1, 0, 0), (0, 1, 0), (0, 0, 1))),
             is_straight_road(WORTH, (4, 1, 0), (0, 0, 2), straight_road(WORTH, (4, 1, 0), (0, 0, 2)))], [True, False, True])

    def test_lots_and_closed_lots_by_walks(self):
        told = {True: 0, False: 0}
        for draw, frame, book, table, tables, ceilings in cases(1, 200):
            sums = sums_plainly(frame, table)
            under = [other for other in tables if is_under_plainly(other, ceilings)]
            self.assertEqual(lot_under(frame, sums, ceilings), under)
            closed = closed_under_plainly(book, ceilings, table)
            self.assertEqual(closed_lot_under(frame, book, ceilings, table), closed)
            whole = whole_under(frame, book, ceilings, sums)
            self.assertIs(whole, closed == under)
            told[whole] += 1
        self.assertGreater(min(told.values()), 20)

    def test_ceilings_that_bar_nothing_or_all(self):
        high = (20000,) * 3
        self.assertEqual(lot_under(COINS, (4, 8), high), [(0, 4, 0), (1, 2, 1), (2, 0, 2)])
        self.assertEqual(lot_under(COINS, (4, 8), (0, 0, 0)), [])
        self.assertEqual(lot_under(COINS, (0, 0), (0, 0, 0)), [(0, 0, 0)])
        self.assertEqual(lot_under(COINS, (1, 4), high), [])
        self.assertIs(whole_under(COINS, (), (0, 0, 0), (4, 8)), True)
        self.assertIs(whole_under(COINS, (), high, (1, 4)), True)
        self.assertIs(whole_under(sums=(4, 8), ceilings=high, book=(), frame=COINS), False)
        self.assertIs(whole_under(COINS, ((1, -2, 1),), (1, 4, 20000), (4, 8)), True)
        self.assertIs(whole_under(COINS, ((1, -2, 1), (2, -4, 2)), high, (4, 8)), True)
        self.assertEqual(lot_under(ceilings=(9,) * 16, sums=tuple(range(10)) + (0,) * 6, frame=HIGH), [tuple(range(10)) + (0,) * 6])
        self.assertEqual(closed_lot_under(table=(0, 0, 0), ceilings=(0, 0, 0), book=(), frame=COINS), [(0, 0, 0)])

    def test_ceilings_of_great_lots(self):
        # The lot has very many tables, of which few are under the ceilings.
        self.assertEqual(lot_under(BROAD, (16,), (1,) * 16), [(1,) * 16])
        self.assertEqual(len(lot_under(BROAD, (15,), (1,) * 16)), 16)
        self.assertEqual(lot_under(BROAD, (17,), (1,) * 16), [])
        self.assertEqual(len(lot_under(BROAD, (160,), (10,) * 15 + (11,))), 16)
        self.assertEqual(len(lot_under(grid(4, 4), (4,) * 8, (1,) * 16)), 1)
        self.assertEqual(len(lot_under(grid(4, 4), (1,) * 8, (1,) * 16)), 24)
        book = tuple(sorted(unit_moves(16)))[:60]
        self.assertEqual(closed_lot_under(BROAD, book, (1,) * 16, (1,) * 16), [(1,) * 16])
        self.assertEqual(lot_under(WORTH, (20000,), (2, 9999, 0)), [(2, 9999, 0)])

    def test_2000_tables_and_more(self):
        self.assertEqual(len(lot_under(PAIR, (5000,), (1999, 20000))), 2000)
        self.too_many("tables", 2000, lot_under, PAIR, (5000,), (2000, 20000))
        self.assertEqual(len(closed_lot_under(PAIR, ONE_UP, (1999, 20000), (0, 5000))), 2000)
        self.too_many("tables", 2000, closed_lot_under, PAIR, ONE_UP, (2000, 20000), (0, 5000))
        self.assertEqual(closed_lot_under(PAIR, (), (2000, 20000), (0, 5000)), [(0, 5000)])
        self.assertIs(whole_under(PAIR, ONE_UP, (1999, 20000), (5000,)), True)
        self.assertIs(whole_under(PAIR, ((2, -2),), (1999, 20000), (5000,)), False)
        for book in (ONE_UP, ()):
            self.too_many("tables", 2000, whole_under, PAIR, book, (2000, 20000), (5000,))

    def test_whole_under_all_exactly_with_all_unparted_moves(self):
        told = {"all": 0, "ceilings": 0}
        for draw, frame, book in frames_and_books(2, 150):
            moves = unparted(frame)
            if draw.random() < 0.5:
                book = book_of(frame, [move for move in moves if draw.random() < draw.choice([0.6, 1])] + list(book))
            missing = [move for move in moves if move not in book]
            value = whole_under_all(frame, book)
            told[value[0]] += 1
            if not missing:
                self.assertEqual(value, ("all",))
                self.assertIs(is_whole_book(frame, book), True)
                continue
            ahead, behind = (tuple(max(sign * number, 0) for number in missing[0]) for sign in (1, -1))
            ceilings = tuple(abs(number) for number in missing[0])
            self.assertEqual(value, ("ceilings", ceilings, ahead, behind))
            # What is told shows it.
            self.assertEqual(lot_under(frame, sums_plainly(frame, ahead), ceilings), sorted([ahead, behind]))
            self.assertEqual(closed_under_plainly(book, ceilings, ahead), [ahead])
            self.assertIs(whole_under(frame, book, ceilings, sums_plainly(frame, ahead)), False)
        self.assertGreater(min(told.values()), 20)

    def test_all_unparted_moves_are_whole_under_any_ceilings(self):
        for draw, frame in small_frames(3, 60, 4, 2, 3):
            book = book_of(frame, unparted(frame))
            self.assertEqual(whole_under_all(frame, book), ("all",))
            table = tuple(draw.randint(0, 3) for _ in frame[1][0])
            for _ in range(4):
                ceilings = tuple(draw.randint(0, 4) for _ in table)
                self.assertIs(whole_under(frame, book, ceilings, sums_plainly(frame, table)), True)

    def test_whole_under_all_of_greater_frames(self):
        self.assertEqual(whole_under_all(HIGH, ()), ("all",))
        self.assertEqual(whole_under_all(BROAD, ())[0], "ceilings")
        self.assertEqual(whole_under_all(book=SQUARE_BOOK, frame=SQUARE), ("all",))
        self.assertEqual(whole_under_all(SIDE_200, whole_book(SIDE_200))[0], "ceilings")
        for frame in (grid(4, 4), linked(4), ("frame", ((1, 2, 3, 4, 5, 6, 7),))):
            self.too_many("moves", 200, whole_under_all, frame, ())

    def test_whole_under_all_where_an_unparted_move_is_too_great(self):
        for frame in GREAT:
            small = [move for move in unparted_by_sums(basis(frame), 200) if max(abs(number) for number in move) <= 99]
            for book in ((), tuple(small[:1]), tuple(small)):
                self.too_many("moves", 200, whole_under_all, frame, book)

    def test_straight_roads(self):
        long = 0
        for draw, frame in small_frames(4, 200, 4, 2, 3):
            table = tuple(draw.randint(0, 3) for _ in frame[1][0])
            other = draw.choice(lot_plainly(frame, sums_plainly(frame, table)))
            told = straight_road(frame, table, other)
            self.assertIs(is_straight_plainly(frame, table, other, told), True)
            self.assertIs(is_straight_road(frame, table, other, told), True)
            for here, cell in itertools.product(told, range(len(table))):
                self.assertTrue(min(table[cell], other[cell]) <= here[cell] <= max(table[cell], other[cell]))
            for value in (told[:-1], told[1:], told[::-1], told[::2], told[:1] + told, told[:1] + told[2:], list(told),
                          (table, other), (table, table, other), (table,), (other,)):
                self.assertIs(is_straight_road(frame, table, other, value), is_straight_plainly(frame, table, other, value))
            long += len(told) > 2
        self.assertGreater(long, 60)

    def test_straight_roads_from_end_to_end(self):
        self.assertEqual(straight_road(COINS, (1, 2, 1), (1, 2, 1)), ((1, 2, 1),))
        self.asks(is_straight_road, COINS, (1, 2, 1), (1, 2, 1), right=[((1, 2, 1),)],
                  wrong=[((1, 2, 1), (1, 2, 1)), ((1, 2, 1), (0, 4, 0), (1, 2, 1)), (), ((0, 4, 0),)])
        told = straight_road(other=(500, 0), table=(0, 500), frame=PAIR)
        self.assertEqual(told, tuple((at, 500 - at) for at in range(501)))
        self.assertIs(is_straight_road(value=told, other=(500, 0), table=(0, 500), frame=PAIR), True)
        told = straight_road(BROAD, (50, 0) * 8, (0, 50) * 8)
        self.assertIs(is_straight_road(BROAD, (50, 0) * 8, (0, 50) * 8, told), True)
        self.assertEqual(len(told), 401)
        # Steps of whatever size.
        one, other = (1, 0, 81, 0), (0, 9, 0, 729)
        self.assertEqual(straight_road(linked(4), (1, 0, 81, 0), (0, 9, 0, 729)), (one, other))
        self.assertIs(is_straight_road(linked(4), one, other, (one, other)), True)
        self.assertEqual(straight_road(linked(4), other, one), (other, one))

    def test_is_straight_road_of_any_value(self):
        good = ((2, 0, 0), (1, 1, 0), (0, 1, 1))
        self.asks(is_straight_road, TOTAL, good[0], good[2], right=[good, (good[0], (1, 0, 1), good[2])], wrong=odd_values() + [
            list(good), good[:2], good[1:], good[::2], good[::-1], (list(good[0]),) + good[1:], good[:1] + ((True, 1, 0),) + good[2:],
            good[:1] + ((1, 1, 1),) + good[2:], good[:1] + ((1, -1, 2),) + good[2:], good[:1] + (None,) + good[2:],
            good[:1] + (Odd(),) + good[2:], good[:1] + ((20001, 0, 0),) + good[2:], good[:2] + good[1:], good[:2] + good[:2] + good[2:],
            good[0], ((1, 0, 1),) + good[1:], good[:2] + ((1, 0, 1),), good[:1] + ((0, 2, 0),) + good[2:],
            good[:1] + ((0, 0, 0),) + good[2:], good[:1] + ((1, 0, 0),) + good[2:]])

    def test_errors(self):
        good = {"frame": COINS, "sums": (4, 8), "ceilings": (9, 9, 9)}
        self.refuses(lot_under, good, "frame", InvalidFrame, WRONG_FRAMES)
        self.refuses(lot_under, good, "sums", InvalidSums, WRONG_SUMS)
        self.refuses(lot_under, good, "ceilings", InvalidCeilings, WRONG_CEILINGS)
        self.first_refused(lot_under, good, [
            ("frame", None, InvalidFrame), ("sums", None, InvalidSums), ("ceilings", None, InvalidCeilings)])
        good = {"frame": COINS, "book": (), "ceilings": (9, 9, 9), "table": (1, 2, 1)}
        self.refuses(closed_lot_under, good, "frame", InvalidFrame, WRONG_FRAMES)
        self.refuses(closed_lot_under, good, "book", InvalidBook, WRONG_BOOKS)
        self.refuses(closed_lot_under, good, "ceilings", InvalidCeilings, WRONG_CEILINGS)
        self.refuses(closed_lot_under, good, "table", InvalidTable, WRONG_TABLES + [(10, 0, 0), (0, 0, 10)])
        self.first_refused(closed_lot_under, good, [
            ("frame", None, InvalidFrame), ("book", None, InvalidBook), ("ceilings", None, InvalidCeilings),
            ("table", (10, 0, 0), InvalidTable)])
        good = {"frame": COINS, "book": (), "ceilings": (9, 9, 9), "sums": (4, 8)}
        self.refuses(whole_under, good, "frame", InvalidFrame, WRONG_FRAMES)
        self.refuses(whole_under, good, "book", InvalidBook, WRONG_BOOKS)
        self.refuses(whole_under, good, "ceilings", InvalidCeilings, WRONG_CEILINGS)
        self.refuses(whole_under, good, "sums", InvalidSums, WRONG_SUMS)
        self.first_refused(whole_under, good, [
            ("frame", None, InvalidFrame), ("book", None, InvalidBook), ("ceilings", None, InvalidCeilings),
            ("sums", (4,), InvalidSums)])
        good = {"frame": COINS, "book": ()}
        self.refuses(whole_under_all, good, "frame", InvalidFrame, WRONG_FRAMES)
        self.refuses(whole_under_all, good, "book", InvalidBook, WRONG_BOOKS)
        self.first_refused(whole_under_all, good, [("frame", None, InvalidFrame), ("book", None, InvalidBook)])

    def test_errors_of_straight_roads(self):
        good = {"frame": COINS, "table": (1, 2, 1), "other": (0, 4, 0)}
        for function, told in ((straight_road, good), (is_straight_road, dict(good, value=()))):
            self.refuses(function, told, "frame", InvalidFrame, WRONG_FRAMES)
            self.refuses(function, told, "table", InvalidTable, WRONG_TABLES)
            self.refuses(function, told, "other", InvalidTable, WRONG_TABLES)
            self.first_refused(function, told, [
                ("frame", None, InvalidFrame), ("table", None, InvalidTable), ("other", (0, 4), InvalidTable)])
            for other in ((0, 0, 0), (4, 0, 0), (1, 2, 2)):
                self.assertIs(type(self.error_of(function, dict(told, other=other))), UnlikeSums)

    def test_arguments_stay_and_lists_are_new(self):
        self.assertIs(type(self.kept_and_new(lot_under, TOTAL, (2,), (1, 0, 2))), list)
        self.assertIs(type(self.kept_and_new(closed_lot_under, TOTAL, TWO, (1, 0, 2), (0, 0, 2))), list)
        self.assertIs(type(self.kept_and_new(whole_under_all, TOTAL, TWO)), tuple)
        self.assertIs(type(self.kept_and_new(straight_road, WORTH, (4, 1, 0), (0, 0, 2))), tuple)
        draw = random.Random(5)
        for _, frame in small_frames(5, 20, 5, 3, 5):
            table = tuple(draw.randint(0, 9) for _ in frame[1][0])
            self.assertIn(table, lot_under(frame, sums_plainly(frame, table), table))
