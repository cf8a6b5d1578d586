"""Orbits, closed books [155] to [157], held against plain groups and the deciding of [stage 8]."""

import unittest

from sumroads.deciding import is_whole_book
from sumroads.errors import InvalidBook, InvalidExchanges, InvalidFrame, InvalidMove, InvalidTable, NotClosed
from sumroads.moves import ends, is_book
from sumroads.orbits import (
    book_under, first_moves, is_closed_under, is_whole_by_orbits, orbit_of_move, orbit_of_table, orbits_of_book)
from sumroads.symmetries import symmetries
from sumroads.wholebooks import whole_book
from tests.helpers import BROAD, COINS, Holds, SQUARE, TOTAL, WRONG_FRAMES
from tests.test_deciding import frames_and_books
from tests.test_elimination import NEAR_200, beside
from tests.test_lots import WRONG_TABLES
from tests.test_moves import WRONG_MOVES, unit_moves
from tests.test_roads import WRONG_BOOKS
from tests.test_symmetries import JUST_1000, JUST_1008, WRONG_LISTS, cells_exchanged, group_plainly, led_plainly, ring_of
from tests.test_wholebooks import NEAR_60
from tests.walking import distances_plainly

FLIP = [(2, 1, 0)]
ONE = (1,) + (0,) * 15


def right_way(change):
    return max(change, tuple(-number for number in change))


def move_orbit_plainly(frame, exchanges, move):
    everyone = group_plainly(len(frame[1][0]), exchanges)
    return sorted({right_way(led_plainly(exchange, move)) for exchange in everyone})


def cases(seed, many):
    """Tuples (draw, frame, some symmetries, a book)."""
    for draw, frame, book in frames_and_books(seed, many):
        everyone = symmetries(frame)
        yield draw, frame, [draw.choice(everyone) for _ in range(draw.randint(0, 2))], book


class Orbits(Holds, unittest.TestCase):
    def test_examples(self):
        self.assertEqual(
            [orbit_of_table(COINS, FLIP, (0, 1, 5)), orbit_of_move(COINS, FLIP, (1, -2, 1)), orbit_of_move(TOTAL, FLIP, (1, -1, 0)),
             is_closed_under(TOTAL, FLIP, ((1, -1, 0),)), book_under(TOTAL, FLIP, ((1, -1, 0),))],
            [[(0, 1, 5), (5, 1, 0)], [(1, -2, 1)], [(0, 1, -1), (1, -1, 0)], False, ((0, 1, -1), (1, -1, 0))])
        self.assertEqual(
            [orbits_of_book(TOTAL, FLIP, ((0, 1, -1), (1, -1, 0))), is_whole_by_orbits(TOTAL, FLIP, ((0, 1, -1), (1, -1, 0))),
             is_whole_by_orbits(TOTAL, FLIP, ((1, 0, -1),)), is_whole_by_orbits(COINS, FLIP, ((2, -4, 2),))],
            [[[(0, 1, -1), (1, -1, 0)]], True, False, False])

    def test_by_plain_groups(self):
        closed = {True: 0, False: 0}
        for draw, frame, exchanges, book in cases(1, 200):
            everyone = group_plainly(len(frame[1][0]), exchanges)
            table = tuple(draw.randint(0, 3) for _ in frame[1][0])
            self.assertEqual(orbit_of_table(frame, exchanges, table), sorted({led_plainly(exchange, table) for exchange in everyone}))
            orbits = [move_orbit_plainly(frame, exchanges, move) for move in book]
            for move, orbit in zip(book, orbits):
                self.assertEqual(orbit_of_move(frame, exchanges, move), orbit)
            under = tuple(sorted({move for orbit in orbits for move in orbit}))
            self.assertEqual(book_under(frame, exchanges, book), under)
            self.assertIs(is_book(frame, under), True)
            self.assertIs(is_closed_under(frame, exchanges, under), True)
            is_closed = under == book
            self.assertIs(is_closed_under(frame, exchanges, book), is_closed)
            closed[is_closed] += 1
            if is_closed:
                self.assertEqual(orbits_of_book(frame, exchanges, book), [list(one) for one in sorted({tuple(orbit) for orbit in orbits})])
            else:
                for function in (orbits_of_book, is_whole_by_orbits):
                    error = self.error_of(function, {"frame": frame, "exchanges": exchanges, "book": book}, True)
                    self.assertIs(type(error), NotClosed)
        self.assertGreater(min(closed.values()), 20)

    def test_first_moves(self):
        for _, frame, exchanges, _ in cases(2, 120):
            wanted = sorted({move_orbit_plainly(frame, exchanges, move)[0] for move in whole_book(frame)})
            self.assertEqual(first_moves(frame, exchanges), wanted)
        self.assertEqual(first_moves(exchanges=[(1, 2, 0)], frame=TOTAL), [(0, 1, -1)])
        self.assertEqual(first_moves(SQUARE, []), [(1, -1, -1, 1)])
        self.assertEqual(first_moves(("frame", ((1, 0), (0, 1))), [(1, 0)]), [])

    def test_whole_by_orbits_is_the_word_of_deciding(self):
        told = {True: 0, False: 0}
        for draw, frame, exchanges, book in cases(3, 250):
            under = book_under(frame, exchanges, book)
            wanted = is_whole_book(frame, under)
            self.assertIs(is_whole_by_orbits(frame, exchanges, under), wanted)
            self.assertIs(is_whole_by_orbits(book=under, exchanges=tuple(exchanges), frame=frame), wanted)
            told[wanted] += 1
        self.assertGreater(min(told.values()), 40)

    def test_led_tables_are_joined_as_they_were(self):
        for draw, frame, exchanges, book in cases(4, 60):
            under = book_under(frame, exchanges, book)
            table = tuple(draw.randint(0, 2) for _ in frame[1][0])
            distances = distances_plainly(under, table)
            for exchange in exchanges:
                wanted = {led_plainly(exchange, other): many for other, many in distances.items()}
                self.assertEqual(distances_plainly(under, led_plainly(exchange, table)), wanted)

    def test_tables_led_beyond_sums_of_20000(self):
        # A symmetry leads changes to changes; a table's orbit has rows, whatever their sums are.
        frame = ("frame", ((1, 1, 0), (0, 0, 9)))
        self.assertEqual(symmetries(frame), [(0, 1, 2), (1, 0, 2)])
        frame = ("frame", ((1, 0), (0, 9)))
        self.assertEqual(orbit_of_table(frame, [(1, 0)], (20000, 0)), [(0, 20000), (20000, 0)])

    def test_1000_symmetries_and_more(self):
        calls = [(orbit_of_table, ONE), (orbit_of_move, (1, -1) + (0,) * 14), (book_under, ()), (orbits_of_book, ()), (is_whole_by_orbits, ())]
        for function, last in calls:
            self.too_many("symmetries", 1000, function, BROAD, JUST_1008, last)
        self.too_many("symmetries", 1000, first_moves, BROAD, JUST_1008)
        self.assertEqual(len(orbit_of_table(BROAD, JUST_1000, ONE)), 5)
        self.assertEqual(len(orbit_of_move(BROAD, JUST_1000, (1, -1) + (0,) * 14)), 5)
        self.assertIs(is_closed_under(BROAD, JUST_1008, ()), True)
        # What is not closed is told ahead of a group that is too great.
        book = ((1, -1) + (0,) * 14,)
        self.assertIs(is_closed_under(BROAD, JUST_1008, book), False)
        for function in (orbits_of_book, is_whole_by_orbits):
            self.assertIs(type(self.error_of(function, {"frame": BROAD, "exchanges": JUST_1008, "book": book})), NotClosed)

    def test_60_moves_and_more(self):
        frame = ("frame", ((1,) * 12,))
        turn = [ring_of(12, 0, 12)]
        moves = [tuple(int(at == 0) - int(at == far) for at in range(12)) for far in range(1, 7)]
        # 12 moves for each distance from 1 to 5 round the ring, 6 for 6.
        self.assertEqual(len(book_under(frame, turn, tuple(sorted(moves[:5])))), 60)
        self.assertEqual(len(orbits_of_book(frame, turn, book_under(frame, turn, tuple(sorted(moves[:5]))))), 5)
        self.too_many("moves", 60, book_under, frame, turn, tuple(sorted(moves)))
        self.assertEqual(len(book_under(frame, [], tuple(sorted(unit_moves(12))[:60]))), 60)
        # Of a turned ring of 12 cells the whole book's moves are those of 6 distances.
        self.assertEqual(len(first_moves(frame, turn)), 6)
        swap = [cells_exchanged(9, (7, 8), (8, 7))]
        self.assertEqual(len(first_moves(beside(NEAR_60, 2), swap)), 60)
        for function, told in ((first_moves, ()), (is_whole_by_orbits, ((),))):
            self.too_many("moves", 60, function, beside(NEAR_60, 3), [], *told)
            self.too_many("rules", 200, function, beside(NEAR_200, 8), [cells_exchanged(14, (12, 13), (13, 12))], *told)

    def test_closed_lots_of_2000_tables_and_more(self):
        # The ends of the one first move have a closed lot of more than 2000 tables by this book.
        frame = ("frame", ((1,) * 4, (1, 1, 0, 0)))
        self.assertIs(is_whole_by_orbits(frame, [(1, 0, 2, 3)], ((0, 0, 1, -1), (1, -1, 0, 0))), True)
        wide = ("frame", ((1, 1, 1, 1, 1, 1, 1, 9, 9),))
        swap = [(0, 1, 2, 3, 4, 5, 6, 8, 7)]
        book = tuple(sorted(unit + (0, 0) for unit in unit_moves(7)))
        # Without the move of both last cells this one is told to be not joined, ahead of the others.
        self.assertIs(is_whole_by_orbits(wide, swap, book), False)
        self.too_many("tables", 2000, is_whole_by_orbits, wide, swap, ((0,) * 7 + (1, -1),) + book)

    def test_errors(self):
        wrongs = [("frame", None, InvalidFrame), ("exchanges", None, InvalidExchanges)]
        for function, name, error, value, wrong in (
                (orbit_of_table, "table", InvalidTable, (1, 2, 1), WRONG_TABLES), (orbit_of_move, "move", InvalidMove, (1, -2, 1), WRONG_MOVES),
                (is_closed_under, "book", InvalidBook, (), WRONG_BOOKS), (book_under, "book", InvalidBook, (), WRONG_BOOKS),
                (orbits_of_book, "book", InvalidBook, (), WRONG_BOOKS), (is_whole_by_orbits, "book", InvalidBook, (), WRONG_BOOKS)):
            good = {"frame": COINS, "exchanges": FLIP, name: value}
            self.refuses(function, good, "frame", InvalidFrame, WRONG_FRAMES)
            self.refuses(function, good, "exchanges", InvalidExchanges, WRONG_LISTS)
            self.refuses(function, good, name, error, wrong)
            self.first_refused(function, good, wrongs + [(name, None, error)])
            self.refuses(function, {"frame": BROAD, "exchanges": JUST_1008, name: None}, name, error, [None])
        good = {"frame": COINS, "exchanges": FLIP}
        self.refuses(first_moves, good, "frame", InvalidFrame, WRONG_FRAMES)
        self.refuses(first_moves, good, "exchanges", InvalidExchanges, WRONG_LISTS)
        self.first_refused(first_moves, good, wrongs)

    def test_arguments_stay_and_lists_are_new(self):
        book = ((0, 1, -1), (1, -1, 0))
        self.assertIs(type(self.kept_and_new(orbit_of_table, COINS, FLIP, (0, 1, 5))), list)
        self.assertIs(type(self.kept_and_new(orbit_of_move, TOTAL, FLIP, (1, -1, 0))), list)
        self.assertIs(type(self.kept_and_new(orbits_of_book, TOTAL, FLIP, book)), list)
        self.assertIs(type(self.kept_and_new(first_moves, TOTAL, FLIP)), list)
        self.assertIs(type(self.kept_and_new(book_under, TOTAL, FLIP, book[:1])), tuple)
        self.assertEqual(ends(TOTAL, (1, -1, 0)), ((1, 0, 0), (0, 1, 0)))
        self.assertEqual(orbits_of_book(TOTAL, FLIP, ()), [])
