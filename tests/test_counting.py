"""Lots counted [32], [33], and sums of a total [35]."""

import itertools
import math
import unittest

from sumroads.counting import cell_counts, lot_count, sums_of_total
from sumroads.errors import InvalidFrame, InvalidPosition, InvalidSums, InvalidTotal
from sumroads.lots import lot
from tests.helpers import BROAD, COINS, HIGH, Holds, Odd, SQUARE, TOTAL, WRONG_FRAMES, sums_plainly
from tests.test_lots import WRONG_SUMS, cases

ONE = ("frame", ((1,),))
# By trial: these have just 2000 and 2001 unlike sums of their totals.
JUST_WITHIN = (("frame", ((7, 6, 8, 8, 3), (4, 4, 1, 6, 6))), 15)
JUST_BEYOND = (("frame", ((5, 9, 6, 0, 9, 4), (3, 0, 1, 1, 7, 3), (4, 1, 7, 9, 2, 9))), 9)


def states_plainly(frame, sums):
    """How many states there are for all k together, by the words of [32]."""
    states, many = {sums}, 1
    for cell in range(len(frame[1][0])):
        found = set()
        for state in states:
            left = state
            while min(left) >= 0:
                found.add(left)
                left = tuple(a - row[cell] for a, row in zip(left, frame[1]))
        states = found
        many += len(states)
    return many


class Counting(Holds, unittest.TestCase):
    def test_examples(self):
        self.assertEqual(
            [lot_count(COINS, (4, 8)), lot_count(COINS, (1, 4)), lot_count(SQUARE, (20, 20, 20, 20)),
             cell_counts(COINS, (4, 8), 1), sums_of_total(COINS, 1), sums_of_total(SQUARE, 0)],
            [3, 0, 21, [(0, 1), (2, 1), (4, 1)], [(1, 1), (1, 2), (1, 3)], [(0, 0, 0, 0)]])

    def test_by_listing(self):
        for frame, sums, wanted in cases(3, 400):
            self.assertEqual(lot_count(frame, sums), len(wanted))
            for cell in range(len(frame[1][0])):
                counts = {}
                for table in wanted:
                    counts[table[cell]] = counts.get(table[cell], 0) + 1
                told = cell_counts(frame, sums, cell)
                self.assertEqual(told, sorted(counts.items()))
                self.assertEqual(sum(many for _, many in told), len(wanted))

    def test_lots_that_can_be_counted_but_not_listed(self):
        self.assertEqual(lot_count(BROAD, (1000,)), math.comb(1015, 15))
        self.too_many("tables", 2000, lot, BROAD, (1000,))
        wanted = [(count, math.comb(30 - count + 14, 14)) for count in range(31)]
        for cell in (0, 7, 15):
            self.assertEqual(cell_counts(BROAD, (30,), cell), wanted)
        self.assertEqual(lot_count(TOTAL, (6000,)), math.comb(6002, 2))
        self.assertEqual(len(cell_counts(TOTAL, (6000,), 1)), 6001)
        self.assertEqual(lot_count(sums=(6000,), frame=TOTAL), math.comb(6002, 2))

    def test_20000_states_and_more(self):
        self.assertEqual(states_plainly(ONE, (19998,)), 20000)
        self.assertEqual(lot_count(ONE, (19998,)), 1)
        self.assertEqual(cell_counts(ONE, (19998,), 0), [(19998, 1)])
        self.too_many("states", 20000, lot_count, ONE, (19999,))
        self.too_many("states", 20000, cell_counts, ONE, (19999,), 0)
        pair = ("frame", ((1, 1),))
        self.assertEqual(lot_count(pair, (9998,)), 9999)
        self.too_many("states", 20000, lot_count, pair, (9999,))
        for sums in ((20000,), (15000,)):
            self.too_many("states", 20000, lot_count, BROAD, sums)
        both = ("frame", ((1, 0, 1), (0, 1, 1)))
        for size in range(98, 104):
            many = states_plainly(both, (size, size))
            if many <= 20000:
                self.assertEqual(lot_count(both, (size, size)), size + 1)
                self.assertEqual(cell_counts(both, (size, size), 2), [(count, 1) for count in range(size + 1)])
            else:
                self.too_many("states", 20000, lot_count, both, (size, size))
                self.too_many("states", 20000, cell_counts, both, (size, size), 2)
        self.too_many("states", 20000, lot_count, HIGH, tuple([20000] * 16))
        self.too_many("states", 20000, lot_count, HIGH, tuple([3] * 16))

    def test_the_sequence_of_the_cells_does_not_matter_at_a_cell(self):
        frame = ("frame", ((1, 1, 1, 1), (0, 1, 2, 3), (1, 0, 0, 1)))
        sums = (9, 14, 5)
        tables = lot(frame, sums)
        for cell in range(4):
            told = cell_counts(position=cell, sums=sums, frame=frame)
            self.assertEqual(told, [
                (count, sum(table[cell] == count for table in tables))
                for count in sorted({table[cell] for table in tables})])

    def test_sums_of_total(self):
        for frame in (COINS, SQUARE, TOTAL, ("frame", ((9, 3), (0, 2))), ("frame", ((2, 2, 1),))):
            cells = len(frame[1][0])
            for total in range(5):
                tables = [table for table in itertools.product(range(total + 1), repeat=cells) if sum(table) == total]
                wanted = sorted({sums_plainly(frame, table) for table in tables})
                self.assertEqual(sums_of_total(frame, total), wanted)
        self.assertEqual(sums_of_total(total=20, frame=TOTAL), [(20,)])
        self.assertEqual(sums_of_total(("frame", ((9,),)), 20), [(180,)])
        self.assertEqual(sums_of_total(HIGH, 0), [tuple([0] * 16)])

    def test_2000_sums_and_more(self):
        frame, total = JUST_WITHIN
        self.assertEqual(len(sums_of_total(frame, total)), 2000)
        self.too_many("sums", 2000, sums_of_total, *JUST_BEYOND)
        self.assertEqual(len(sums_of_total(HIGH, 3)), 816)
        self.too_many("sums", 2000, sums_of_total, HIGH, 4)
        self.too_many("sums", 2000, sums_of_total, HIGH, 20)

    def test_errors(self):
        good = {"frame": COINS, "sums": (4, 8)}
        self.refuses(lot_count, good, "frame", InvalidFrame, WRONG_FRAMES)
        self.refuses(lot_count, good, "sums", InvalidSums, WRONG_SUMS)
        self.first_refused(lot_count, good, [("frame", None, InvalidFrame), ("sums", None, InvalidSums)])
        good = {"frame": COINS, "sums": (4, 8), "position": 0}
        self.refuses(cell_counts, good, "frame", InvalidFrame, WRONG_FRAMES)
        self.refuses(cell_counts, good, "sums", InvalidSums, WRONG_SUMS)
        wrong = [3, -1, True, False, None, "0", (0,), [0], Odd()]
        self.refuses(cell_counts, good, "position", InvalidPosition, wrong)
        self.first_refused(cell_counts, good, [
            ("frame", None, InvalidFrame), ("sums", None, InvalidSums), ("position", None, InvalidPosition)])
        self.refuses(cell_counts, {"frame": ONE, "sums": (20000,), "position": 0}, "position", InvalidPosition, [1])
        good = {"frame": COINS, "total": 1}
        self.refuses(sums_of_total, good, "frame", InvalidFrame, WRONG_FRAMES)
        self.refuses(sums_of_total, good, "total", InvalidTotal, [21, -1, True, False, None, "1", (1,), [1], Odd()])
        self.first_refused(sums_of_total, good, [("frame", None, InvalidFrame), ("total", 21, InvalidTotal)])

    def test_arguments_stay_and_lists_are_new(self):
        self.kept_and_new(cell_counts, COINS, (4, 8), 1)
        self.kept_and_new(lot_count, COINS, (4, 8))
        self.kept_and_new(sums_of_total, COINS, 2)
        self.kept_and_new(sums_of_total, COINS, 0)
