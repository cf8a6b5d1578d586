"""Rows within other ones, changes within a change, tables between two [101]."""

import itertools
import unittest

from sumroads.conformal import between, changes_within, is_within
from sumroads.errors import InvalidChange, InvalidFrame, InvalidRow, InvalidTable, UnlikeSums
from sumroads.kernels import basis, change_by
from tests.helpers import BROAD, COINS, HIGH, Holds, Odd, SQUARE, TOTAL, WRONG_FRAMES, lot_plainly, sums_plainly
from tests.parting import changes_within_plainly, within_plainly
from tests.test_elimination import linked, small_frames
from tests.test_lots import WRONG_TABLES

WRONG_CHANGES = [
    (1, -1, 0), (100, -200, 100), (50, -100, 50), (1, -2), (1, -2, 1, 0), [1, -2, 1], (True, -2, 1), (1, -2, True), (False, 0, 0),
    (), None, 1, "abc", Odd(), (Odd(), 0, 0), (None, 0, 0), [(1, -2, 1)]]


def some_changes(seed, many, size=2, most=3):
    """Frames, each with a change that is not 0, no number above 6 in size."""
    for draw, frame in small_frames(seed, many, 4, 2, most):
        rows = basis(frame)
        change = change_by(frame, tuple(draw.randint(-size, size) for _ in rows))
        if any(change) and max(abs(number) for number in change) <= 6:
            yield draw, frame, change


class Within(Holds, unittest.TestCase):
    def test_examples(self):
        self.assertEqual(
            [is_within((0, 1, -1), (1, 1, -2)), is_within((0, 1, -1), (1, 1, 0)), changes_within(TOTAL, (1, 1, -2)),
             between(TOTAL, (2, 0, 0), (0, 1, 1))],
            [True, False, [(0, 0, 0), (0, 1, -1), (1, 0, -1), (1, 1, -2)], [(0, 1, 1), (1, 0, 1), (1, 1, 0), (2, 0, 0)]])

    def test_within_by_the_words(self):
        for row, other in itertools.product(itertools.product(range(-2, 3), repeat=2), repeat=2):
            self.assertIs(is_within(row, other), within_plainly(row, other))
        self.assertIs(is_within(other=(10 ** 6,) * 40, row=(10 ** 6,) * 40), True)
        self.assertIs(is_within((-10 ** 6,), (10 ** 6,)), False)
        self.assertIs(is_within((0,), (0,)), True)

    def test_changes_within_by_trying_all(self):
        parted = 0
        for _, frame, change in some_changes(1, 200):
            wanted = changes_within_plainly(frame, change)
            told = changes_within(frame, change)
            self.assertEqual(told, wanted)
            self.assertEqual(told, sorted(told))
            for part in told:
                rest = tuple(a - b for a, b in zip(change, part))
                self.assertIn(rest, told)
            parted += len(told) > 2
        self.assertGreater(parted, 50)

    def test_changes_within_of_nought_and_of_greater_ones(self):
        self.assertEqual(changes_within(COINS, (0, 0, 0)), [(0, 0, 0)])
        self.assertEqual(changes_within(HIGH, (0,) * 16), [(0,) * 16])
        self.assertEqual(changes_within(change=(1, -2, 1), frame=COINS), [(0, 0, 0), (1, -2, 1)])
        self.assertEqual(changes_within(COINS, (-49, 98, -49)), [(-at, 2 * at, -at) for at in range(49, -1, -1)])
        self.too_many("changes", 2000, changes_within, BROAD, (1, -1) * 8)

    def test_2000_changes_and_more(self):
        # Of (a, b, -a - b) there are (a + 1)(b + 1) within.
        self.assertEqual(len(changes_within(TOTAL, (39, 49, -88))), 2000)
        self.assertEqual(len(changes_within(TOTAL, (-39, 88, -49))), 2000)
        self.too_many("changes", 2000, changes_within, TOTAL, (39, 50, -89))
        self.too_many("changes", 2000, changes_within, BROAD, (99, -99) * 8)
        # So many numbers, but hardly any change within.
        self.assertEqual(changes_within(linked(3), (1, -9, 81)), [(0, 0, 0), (1, -9, 81)])

    def test_between_by_listing(self):
        more = 0
        for draw, frame in small_frames(2, 120):
            table = tuple(draw.randint(0, 3) for _ in frame[1][0])
            tables = lot_plainly(frame, sums_plainly(frame, table))
            for other in draw.sample(tables, min(4, len(tables))):
                wanted = [here for here in tables if all(min(a, b) <= c <= max(a, b) for a, b, c in zip(table, other, here))]
                self.assertEqual(between(frame, table, other), wanted)
                self.assertEqual(between(frame, other, table), wanted)
                step = tuple(b - a for a, b in zip(table, other))
                self.assertEqual(wanted, sorted(
                    tuple(a + c for a, c in zip(table, part)) for part in changes_within_plainly(frame, step)))
                more += len(wanted) > 2
        self.assertGreater(more, 40)
        self.assertEqual(between(other=(1, 2, 1), table=(1, 2, 1), frame=COINS), [(1, 2, 1)])

    def test_between_2000_tables_and_more(self):
        pair = ("frame", ((1, 1),))
        self.assertEqual(between(pair, (0, 1999), (1999, 0)), [(at, 1999 - at) for at in range(2000)])
        self.too_many("tables", 2000, between, pair, (0, 2000), (2000, 0))
        self.assertEqual(between(pair, (9000, 1001), (10000, 1)), [(at, 10001 - at) for at in range(9000, 10001)])
        self.too_many("tables", 2000, between, TOTAL, (39, 50, 0), (0, 0, 89))
        self.assertEqual(len(between(TOTAL, (39, 49, 700), (0, 0, 788))), 2000)

    def test_errors(self):
        wrong = [[1, 2], (), (1, True), (False, 0), (10 ** 6 + 1, 0), None, 1, "ab", Odd(), (Odd(), 1), tuple([0] * 41)]
        good = {"row": (0, 1), "other": (1, 2)}
        self.refuses(is_within, good, "row", InvalidRow, wrong)
        self.refuses(is_within, good, "other", InvalidRow, wrong + [(1,), (1, 2, 3)])
        self.first_refused(is_within, good, [("row", None, InvalidRow), ("other", (1, True), InvalidRow)])
        good = {"frame": COINS, "change": (1, -2, 1)}
        self.refuses(changes_within, good, "frame", InvalidFrame, WRONG_FRAMES)
        self.refuses(changes_within, good, "change", InvalidChange, WRONG_CHANGES)
        self.first_refused(changes_within, good, [("frame", None, InvalidFrame), ("change", None, InvalidChange)])
        good = {"frame": COINS, "table": (1, 2, 1), "other": (0, 4, 0)}
        self.refuses(between, good, "frame", InvalidFrame, WRONG_FRAMES)
        self.refuses(between, good, "table", InvalidTable, WRONG_TABLES)
        self.refuses(between, good, "other", InvalidTable, WRONG_TABLES)
        self.first_refused(between, good, [
            ("frame", None, InvalidFrame), ("table", None, InvalidTable), ("other", (0, True, 0), InvalidTable)])
        for other in ((0, 0, 0), (4, 0, 0), (1, 2, 2)):
            self.assertIs(type(self.error_of(between, {1: COINS, 2: (1, 2, 1), 3: other})), UnlikeSums)
        # Unlike sums come ahead of too many tables.
        self.assertIs(type(self.error_of(between, {1: SQUARE, 2: (9000, 0, 0, 9000), 3: (0, 9000, 9000, 1)})), UnlikeSums)

    def test_arguments_stay_and_lists_are_new(self):
        self.assertIs(type(self.kept_and_new(changes_within, TOTAL, (1, 1, -2))), list)
        self.assertIs(type(self.kept_and_new(between, TOTAL, (2, 0, 0), (0, 1, 1))), list)
        self.kept_and_new(is_within, (0, 1), (1, 1))
