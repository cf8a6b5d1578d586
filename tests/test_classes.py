"""Neighbours and pieces [91], moves needed at some sums [92]."""

import unittest

from sumroads.classes import are_neighbours, needed_at, pieces
from sumroads.errors import InvalidFrame, InvalidSums, InvalidTable
from tests.helpers import BROAD, COINS, HIGH, Holds, SQUARE, TOTAL, WRONG_FRAMES, lot_plainly, sums_plainly
from tests.test_elimination import small_frames
from tests.test_lots import WRONG_SUMS, WRONG_TABLES

CROSS = SQUARE


def near_plainly(table, other):
    return table != other and any(a and b for a, b in zip(table, other))


def pieces_plainly(tables):
    """By going from neighbour to neighbour."""
    left, found = set(tables), []
    while left:
        piece = edge = {min(left)}
        while edge:
            edge = {other for other in tables for table in edge if near_plainly(table, other)} - piece
            piece = piece | edge
        found.append(sorted(piece))
        left -= piece
    return sorted(found)


class Pieces(Holds, unittest.TestCase):
    def test_examples(self):
        self.assertEqual(
            [pieces(TOTAL, (1,)), needed_at(TOTAL, (1,)), needed_at(TOTAL, (2,)), pieces(CROSS, (1, 1, 1, 1)),
             pieces(CROSS, (1, 1, 2, 1))],
            [[[(0, 0, 1)], [(0, 1, 0)], [(1, 0, 0)]], 2, 0, [[(0, 1, 1, 0)], [(1, 0, 0, 1)]], []])
        self.assertEqual([are_neighbours(TOTAL, (1, 1, 0), (0, 2, 0)), are_neighbours(TOTAL, (1, 1, 0), (0, 0, 2))], [True, False])

    def test_neighbours(self):
        for draw, frame in small_frames(1, 150):
            table = tuple(draw.randint(0, 2) for _ in frame[1][0])
            for other in lot_plainly(frame, sums_plainly(frame, table))[:6] + [table]:
                self.assertIs(are_neighbours(frame, table, other), near_plainly(table, other))
                self.assertIs(are_neighbours(frame, other, table), near_plainly(table, other))
        self.assertIs(are_neighbours(other=(1, 0, 0), table=(1, 0, 0), frame=TOTAL), False)
        self.assertIs(are_neighbours(TOTAL, (0, 0, 0), (0, 0, 0)), False)

    def test_pieces_by_listing(self):
        many = {}
        for draw, frame in small_frames(2, 250, 5, 3, 4):
            for _ in range(3):
                table = tuple(draw.choice([0, 0, 1, 2]) for _ in frame[1][0])
                sums = sums_plainly(frame, table)
                wanted = pieces_plainly(lot_plainly(frame, sums))
                told = pieces(frame, sums)
                self.assertEqual(told, wanted)
                self.assertEqual(needed_at(frame, sums), len(wanted) - 1)
                many[len(told)] = many.get(len(told), 0) + 1
        self.assertGreater(many[2], 10)

    def test_empty_lots_and_nought(self):
        self.assertEqual(pieces(COINS, (1, 4)), [])
        self.assertEqual(needed_at(COINS, (1, 4)), 0)
        self.assertEqual(pieces(COINS, (0, 0)), [[(0, 0, 0)]])
        self.assertEqual(needed_at(sums=(0, 0), frame=COINS), 0)
        self.assertEqual(pieces(sums=(1,), frame=BROAD), [[tuple(int(at == cell) for at in range(16))] for cell in range(15, -1, -1)])
        self.assertEqual(needed_at(BROAD, (1,)), 15)
        self.assertEqual(pieces(HIGH, tuple(range(16))), [[tuple(range(16))]])

    def test_2000_tables_and_more(self):
        pair = ("frame", ((1, 1),))
        self.assertEqual(pieces(pair, (1999,)), [[(at, 1999 - at) for at in range(2000)]])
        for function in (pieces, needed_at):
            self.too_many("tables", 2000, function, pair, (2000,))
        self.assertEqual(len(pieces(("frame", ((2, 3),)), (11994,))[0]), 2000)

    def test_errors(self):
        good = {"frame": COINS, "sums": (4, 8)}
        for function in (pieces, needed_at):
            self.refuses(function, good, "frame", InvalidFrame, WRONG_FRAMES)
            self.refuses(function, good, "sums", InvalidSums, WRONG_SUMS)
            self.first_refused(function, good, [("frame", None, InvalidFrame), ("sums", None, InvalidSums)])
        good = {"frame": COINS, "table": (1, 2, 1), "other": (0, 4, 0)}
        self.refuses(are_neighbours, good, "frame", InvalidFrame, WRONG_FRAMES)
        self.refuses(are_neighbours, good, "table", InvalidTable, WRONG_TABLES)
        self.refuses(are_neighbours, good, "other", InvalidTable, WRONG_TABLES + [(0, 0, 0), (1, 2, 2), (4, 0, 0)])
        self.first_refused(are_neighbours, good, [
            ("frame", None, InvalidFrame), ("table", (0, 0), InvalidTable), ("other", (0, 0, 0), InvalidTable)])

    def test_arguments_stay_and_lists_are_new(self):
        self.assertIs(type(self.kept_and_new(pieces, TOTAL, (1,))[0]), list)
        self.kept_and_new(pieces, TOTAL, (2,))
        self.kept_and_new(pieces, COINS, (1, 4))
