"""Bounds of cells, told cells [134] to [136], held against listed lots."""

import unittest

from sumroads.bounds import always_told, cell_bounds, plain_bounds, told_cells
from sumroads.errors import EmptyLot, InvalidFrame, InvalidPosition, InvalidSums, InvalidTable
from tests.helpers import BROAD, COINS, HIGH, Holds, Odd, SQUARE, TOTAL, WRONG_FRAMES, lot_plainly, sums_plainly
from tests.test_counting import states_plainly
from tests.test_elimination import NEAR_200, beside, small_frames
from tests.test_lots import WRONG_SUMS, WRONG_TABLES, cases
from tests.test_wholebooks import TURNED_200

WRONG_POSITIONS = [-1, 3, True, False, None, "0", (0,), [0], Odd()]


def tables_and_lots(seed, many):
    for draw, frame in small_frames(seed, many, 4, 3, 3):
        table = tuple(draw.randint(0, 3) for _ in frame[1][0])
        yield frame, table, lot_plainly(frame, sums_plainly(frame, table))


class Bounds(Holds, unittest.TestCase):
    def test_examples(self):
        self.assertEqual(
            [cell_bounds(COINS, (1, 2, 1), 1), plain_bounds(COINS, (4, 8), 2), told_cells(COINS, (1, 0, 0)), told_cells(COINS, (0, 2, 0)),
             always_told(COINS), always_told(("frame", ((1, 1, 0), (0, 0, 1))))], [(0, 4), (0, 2), [0, 1, 2], [], [], [2]])

    def test_by_listing(self):
        apart = 0
        for frame, table, tables in tables_and_lots(1, 200):
            wanted = [(min(column), max(column)) for column in zip(*tables)]
            sums = sums_plainly(frame, table)
            for cell, bounds in enumerate(wanted):
                self.assertEqual(cell_bounds(frame, table, cell), bounds)
                self.assertEqual(plain_bounds(frame, sums, cell), bounds)
            told = told_cells(frame, table)
            self.assertEqual(told, [cell for cell, (least, most) in enumerate(wanted) if least == most])
            self.assertTrue(set(always_told(frame)) <= set(told))
            apart += len(told) < len(wanted)
        self.assertGreater(apart, 60)

    def test_plain_bounds_of_any_sums(self):
        empty = 0
        for frame, sums, tables in cases(2, 120):
            for cell in range(len(frame[1][0])):
                if tables:
                    column = [table[cell] for table in tables]
                    self.assertEqual(plain_bounds(frame, sums, cell), (min(column), max(column)))
                else:
                    empty += 1
                    self.assertIs(type(self.error_of(plain_bounds, {"frame": frame, "sums": sums, "position": cell})), EmptyLot)
        self.assertGreater(empty, 40)

    def test_always_told_by_listing_several_lots(self):
        told = 0
        for draw, frame in small_frames(3, 80, 4, 3, 2):
            cells = range(len(frame[1][0]))
            wanted = set(cells)
            for _ in range(12):
                table = tuple(draw.randint(0, 4) for _ in cells)
                tables = lot_plainly(frame, sums_plainly(frame, table))
                wanted &= {cell for cell in cells if len({other[cell] for other in tables}) == 1}
            self.assertTrue(set(always_told(frame)) <= wanted)
            for cell in wanted - set(always_told(frame)):
                self.assertTrue(self.is_moved(frame, cell))
            told += len(wanted) > 0
        self.assertGreater(told, 10)
        self.assertEqual(always_told(frame=HIGH), list(range(16)))
        self.assertEqual([always_told(frame) for frame in (BROAD, SQUARE, TOTAL)], [[], [], []])
        self.assertEqual(always_told(("frame", ((1, 1, 0, 2, 0), (0, 0, 1, 0, 3)))), [])
        self.assertEqual(always_told(("frame", ((1, 1, 0, 0), (0, 0, 1, 3), (0, 0, 2, 1)))), [2, 3])

    def is_moved(self, frame, cell):
        """Whether some lot of a table with greater counts has unlike counts at the cell."""
        for size in range(5, 13):
            tables = lot_plainly(frame, sums_plainly(frame, (size,) * len(frame[1][0])))
            if len({table[cell] for table in tables}) > 1:
                return True
        return False

    def test_great_lots(self):
        self.assertEqual(cell_bounds(TOTAL, (20000, 0, 0), 2), (0, 20000))
        self.assertEqual(cell_bounds(COINS, (0, 5000, 0), 0), (0, 2500))
        self.assertEqual(cell_bounds(position=1, table=(0, 5000, 0), frame=COINS), (0, 5000))
        self.assertEqual(cell_bounds(BROAD, (1,) * 16, 7), (0, 16))
        self.assertEqual(plain_bounds(BROAD, (1000,), 7), (0, 1000))
        self.assertEqual(told_cells(BROAD, (0,) * 16), list(range(16)))
        self.assertEqual(told_cells(HIGH, (0,) * 13 + (1, 2, 3)), list(range(16)))
        self.too_many("states", 20000, told_cells, HIGH, tuple(range(16)))
        # A cell that is counted by a second row alone, and by numbers of more than 1.
        self.assertEqual(cell_bounds(("frame", ((0, 2, 3), (1, 1, 0))), (1, 3, 2), 0), (1, 4))

    def test_20000_states_and_more(self):
        # Of three cells with the total told there are 1 + 3 * (total + 1) states.
        within = ("frame", ((1, 1, 1),))
        self.assertEqual([states_plainly(within, (total,)) for total in (0, 1, 50)], [4, 7, 154])
        self.assertEqual(plain_bounds(within, (6665,), 1), (0, 6665))
        self.too_many("states", 20000, plain_bounds, within, (6666,), 1)
        self.too_many("states", 20000, told_cells, within, (6666, 0, 0))
        self.assertEqual(told_cells(within, (6665, 0, 0)), [])
        # Of an empty lot, too, the states are told ahead.
        even = ("frame", ((2, 2, 2),))
        self.assertIs(type(self.error_of(plain_bounds, {"frame": even, "sums": (9,), "position": 0})), EmptyLot)
        self.too_many("states", 20000, plain_bounds, even, (19999,), 0)
        self.assertEqual(cell_bounds(within, (20000, 0, 0), 1), (0, 20000))

    def test_too_many_rules(self):
        table = (0,) * 13
        self.assertEqual(cell_bounds(beside(NEAR_200, 7), table, 12), (0, 0))
        self.too_many("rules", 200, cell_bounds, beside(NEAR_200, 8), table + (0,), 0)
        self.assertEqual(plain_bounds(beside(NEAR_200, 8), (0, 0, 0, 5), 13), (0, 5))
        self.assertEqual(always_told(beside(NEAR_200, 8)), [])
        self.assertEqual(told_cells(TURNED_200, (0,) * 8), list(range(8)))

    def test_errors(self):
        good = {"frame": COINS, "table": (1, 2, 1), "position": 1}
        wrongs = [("frame", None, InvalidFrame), ("table", None, InvalidTable), ("position", 3, InvalidPosition)]
        self.refuses(cell_bounds, good, "frame", InvalidFrame, WRONG_FRAMES)
        self.refuses(cell_bounds, good, "table", InvalidTable, WRONG_TABLES)
        self.refuses(cell_bounds, good, "position", InvalidPosition, WRONG_POSITIONS)
        self.first_refused(cell_bounds, good, wrongs)
        good = {"frame": COINS, "sums": (4, 8), "position": 1}
        self.refuses(plain_bounds, good, "frame", InvalidFrame, WRONG_FRAMES)
        self.refuses(plain_bounds, good, "sums", InvalidSums, WRONG_SUMS)
        self.refuses(plain_bounds, good, "position", InvalidPosition, WRONG_POSITIONS)
        self.first_refused(plain_bounds, good, [wrongs[0], ("sums", None, InvalidSums), wrongs[2]])
        self.refuses(plain_bounds, {"frame": TOTAL, "sums": (20000,), "position": 0}, "position", InvalidPosition, WRONG_POSITIONS)
        good = {"frame": COINS, "table": (1, 2, 1)}
        self.refuses(told_cells, good, "frame", InvalidFrame, WRONG_FRAMES)
        self.refuses(told_cells, good, "table", InvalidTable, WRONG_TABLES)
        self.first_refused(told_cells, good, wrongs[:2])
        self.refuses(always_told, {"frame": COINS}, "frame", InvalidFrame, WRONG_FRAMES)

    def test_arguments_stay_and_lists_are_new(self):
        self.assertIs(type(self.kept_and_new(cell_bounds, COINS, (1, 2, 1), 1)), tuple)
        self.assertIs(type(self.kept_and_new(plain_bounds, COINS, (4, 8), 1)), tuple)
        self.assertIs(type(self.kept_and_new(told_cells, COINS, (1, 0, 0))), list)
        self.assertIs(type(self.kept_and_new(always_told, HIGH)), list)
