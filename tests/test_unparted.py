"""Unparted changes, parted sums [102] to [104], [108], held against trials of all changes."""

import itertools
import random
import unittest

from sumroads.errors import InvalidChange, InvalidFrame, InvalidMany, InvalidMove
from sumroads.kernels import basis, change_by
from sumroads.unparted import is_parted_sum, is_unparted, parted_sum, plain_unparted, unparted
from tests.helpers import BROAD, COINS, HIGH, Holds, Odd, SQUARE, TOTAL, WRONG_FRAMES, odd_values, random_frame, sums_plainly
from tests.parting import changes_within_plainly, is_parted_sum_plainly, is_unparted_plainly, unparted_by_sums, unparted_plainly
from tests.test_conformal import WRONG_CHANGES, some_changes
from tests.test_elimination import beside, cube_of, linked, small_frames
from tests.test_moves import WRONG_MOVES
from tests.test_wholebooks import GRID, TO_100, TO_99

WORTH = ("frame", ((1, 2, 3),))
GREAT = [
    ("frame", ((7, 0, 0, 2, 0), (0, 1, 5, 0, 0), (0, 0, 3, 9, 7))), ("frame", ((0, 3, 0, 7, 0), (0, 0, 8, 2, 9), (8, 1, 0, 0, 0))),
    ("frame", ((0, 0, 8, 1, 2), (1, 8, 0, 3, 0), (0, 1, 0, 2, 0))), ("frame", ((5, 0, 9, 0, 0), (0, 8, 7, 9, 2), (1, 9, 3, 3, 3))),
    ("frame", ((1, 8, 5, 0, 8), (1, 5, 0, 0, 3), (1, 0, 8, 8, 0)))]
SIDE_200 = ("frame", ((1, 9, 4, 5, 8, 2),))


def grid(rows, columns):
    cells = range(rows * columns)
    of_rows = tuple(tuple(int(cell // columns == row) for cell in cells) for row in range(rows))
    return ("frame", of_rows + tuple(tuple(int(cell % columns == column) for cell in cells) for column in range(columns)))


def chained(*pairs):
    """Each cell counted with the next one, by these two numbers."""
    cells = len(pairs) + 1
    return ("frame", tuple((0,) * at + pair + (0,) * (cells - 2 - at) for at, pair in enumerate(pairs)))


def sizes(move):
    return max(abs(number) for number in move)


class Unparted(Holds, unittest.TestCase):
    def test_examples(self):
        self.assertEqual(
            [unparted(TOTAL), unparted(WORTH), plain_unparted(WORTH, 2), unparted(("frame", ((1, 0), (0, 1))))],
            [[(0, 1, -1), (1, -1, 0), (1, 0, -1)], [(0, 3, -2), (1, -2, 1), (1, 1, -1), (2, -1, 0), (3, 0, -1)],
             [(1, -2, 1), (1, 1, -1), (2, -1, 0)], []])
        self.assertEqual(
            [is_unparted(TOTAL, (1, 1, -2)), is_parted_sum(TOTAL, (1, 1, -2), [(1, 0, -1), (0, 1, -1)]),
             is_parted_sum(TOTAL, (1, 1, -2), [(1, 1, -2)]), is_parted_sum(WORTH, (4, 1, -2), parted_sum(WORTH, (4, 1, -2))),
             parted_sum(TOTAL, (0, 0, 0))], [False, True, False, True, []])

    def test_by_trying_all_changes(self):
        found = 0
        for _, frame in small_frames(1, 120, 4, 3, 3):
            most = {1: 4, 2: 4, 3: 4, 4: 3}[len(frame[1][0])]
            wanted = unparted_plainly(frame, most)
            self.assertEqual([move for move in unparted(frame) if sizes(move) <= most], wanted)
            self.assertEqual(plain_unparted(frame, most), wanted)
            found += len(wanted)
        self.assertGreater(found, 100)

    def test_the_plain_way_and_the_clever_one(self):
        for _, frame in small_frames(2, 120, 4, 3, 5):
            told = unparted(frame)
            self.assertIs(type(told), list)
            self.assertEqual(told, sorted(told))
            most = {1: 9, 2: 9, 3: 9, 4: 5}[len(frame[1][0])]
            for many in (1, 2, most):
                self.assertEqual(plain_unparted(frame, many), [move for move in told if sizes(move) <= many])
            self.assertTrue(all(is_unparted(frame, move) for move in told))

    def test_each_change_is_a_sum_of_them(self):
        for draw, frame in small_frames(3, 80, 5, 3, 4):
            told = unparted(frame)
            both = told + [tuple(-number for number in move) for move in told]
            rows = basis(frame)
            for _ in range(3):
                change = change_by(frame, tuple(draw.randint(-3, 3) for _ in rows))
                if any(change) and sizes(change) <= 99:
                    parts = parted_sum(frame, change)
                    self.assertLessEqual(set(parts), set(both))
                    self.assertEqual(tuple(sum(column) for column in zip(*parts)), change)
                    self.assertIs(is_parted_sum(frame, change, parts), True)

    def test_many_from_1_to_9(self):
        wanted = unparted(("frame", ((1, 2, 9),)))
        for many in range(1, 10):
            self.assertEqual(plain_unparted(("frame", ((1, 2, 9),)), many), [move for move in wanted if sizes(move) <= many])
        self.assertEqual(plain_unparted(many=1, frame=TOTAL), unparted(TOTAL))
        good = {"frame": TOTAL, "many": 1}
        self.refuses(plain_unparted, good, "many", InvalidMany, [0, 10, -1, True, False, None, "1", (1,), Odd(), [1]])

    def test_20000_rows_and_more(self):
        # 3 ** 9 = 19683, 3 ** 10 = 59049; 19 ** 3 = 6859, 19 ** 4 = 130321; 7 ** 5 = 16807, 9 ** 5 = 59049.
        ones = {cells: ("frame", ((1,) * cells,)) for cells in (3, 4, 5, 9, 10, 16)}
        self.assertEqual(plain_unparted(ones[9], 1), unparted(ones[9]))
        self.assertEqual(plain_unparted(ones[5], 3), unparted(ones[5]))
        self.assertEqual(plain_unparted(ones[3], 9), unparted(ones[3]))
        for cells, many in ((10, 1), (5, 4), (4, 9), (16, 1), (16, 9)):
            self.too_many("rows", 20000, plain_unparted, ones[cells], many)

    def test_200_moves_and_more(self):
        self.assertEqual(len(unparted(BROAD)), 120)
        self.assertEqual(len(unparted(grid(3, 5))), 90)
        self.assertEqual(len(unparted(GRID)), 15)
        # 4 x 4 has 36 + 96 + 72 = 204.
        self.too_many("moves", 200, unparted, grid(4, 4))
        told = unparted(("frame", ((1, 2, 3, 4, 5, 6),)))
        self.assertEqual(len(told), 102)
        self.assertEqual(len(unparted(SIDE_200)), 200)
        # Beside two cells of which the total alone is told there is one more.
        self.assertEqual(len(unparted(beside(("frame", ((9, 2, 5, 9, 8, 6),)), 2))), 200)
        self.too_many("moves", 200, unparted, beside(SIDE_200, 2))
        self.too_many("moves", 200, unparted, ("frame", ((1, 2, 3, 4, 5, 6, 7),)))
        self.assertEqual(unparted(HIGH), [])
        self.assertEqual(len(unparted(cube_of(2, 2, 3))), 3)

    def test_numbers_to_99_and_more(self):
        self.assertEqual(unparted(linked(3)), [(1, -9, 81)])
        self.assertEqual(unparted(TO_99), [(9, 99, -72, -44)])
        self.too_many("moves", 200, unparted, TO_100)
        self.too_many("moves", 200, unparted, linked(4))
        self.assertEqual(unparted(chained((9, 2), (9, 5))), [(10, -45, 81)])
        self.assertEqual(unparted(chained((7, 1), (7, 1), (2, 1))), [(1, -7, 49, -98)])
        self.too_many("moves", 200, unparted, chained((5, 1), (5, 1), (4, 1)))
        self.too_many("moves", 200, unparted, chained((1, 5), (1, 5), (1, 4)))
        # A small one is told however great others are.
        frame = ("frame", tuple(row + (0, 0) for row in linked(4)[1]) + ((0, 0, 0, 0, 1, 1),))
        self.too_many("moves", 200, unparted, frame)
        self.assertEqual(plain_unparted(frame, 1), [(0, 0, 0, 0, 1, -1)])
        self.assertIs(is_unparted(frame, (0, 0, 0, 0, 1, -1)), True)

    def test_great_numbers_at_any_cell(self):
        # Each has unparted moves with a number above 99, at other cells than the last one, or as sums of lesser ones.
        for frame in GREAT:
            self.assertGreater(max(sizes(move) for move in unparted_by_sums(basis(frame), 200)), 99)
            self.too_many("moves", 200, unparted, frame)
        draw = random.Random(8)
        beyond, within = [0] * 5, 0
        for _ in range(150):
            cells = draw.choice([4, 5])
            frame = random_frame(draw, cells, cells - 2, 9)
            wanted = unparted_by_sums(basis(frame), 60)
            if wanted is None:
                continue
            if all(sizes(move) <= 99 for move in wanted):
                self.assertEqual(unparted(frame), wanted)
                within += 1
                continue
            self.too_many("moves", 200, unparted, frame)
            for cell in range(cells):
                beyond[cell] += any(abs(move[cell]) > 99 for move in wanted)
        self.assertGreater(within, 50)
        self.assertGreater(min(beyond), 0)

    def test_great_numbers_whatever_the_sequence_of_the_cells(self):
        for frame in GREAT[:3]:
            for places in itertools.permutations(range(5)):
                turned = ("frame", tuple(tuple(row[place] for place in places) for row in frame[1]))
                self.too_many("moves", 200, unparted, turned)

    def test_99_and_100_as_sums_of_lesser_ones(self):
        # All rows of the basis are lesser; the greatest number stands at the cell that is told, not at the last one.
        for frame, cell, most in (
                (("frame", ((0, 0, 5, 5, 1), (2, 0, 0, 8, 6), (7, 9, 0, 0, 0))), 0, 99),
                (("frame", ((9, 3, 3, 0, 9), (7, 5, 6, 1, 0), (0, 1, 0, 9, 0))), 1, 99),
                (("frame", ((6, 0, 8, 0, 2), (6, 2, 0, 0, 3), (9, 9, 9, 4, 0))), 3, 99),
                (("frame", ((4, 0, 0, 0, 5), (2, 5, 8, 2, 2), (6, 7, 0, 5, 6))), 0, 100),
                (("frame", ((0, 5, 8, 2, 5), (5, 2, 4, 0, 0), (0, 4, 4, 6, 0))), 1, 100),
                (("frame", ((0, 0, 5, 1, 3), (5, 8, 0, 1, 0), (6, 0, 0, 0, 8))), 3, 100)):
            wanted = unparted_by_sums(basis(frame), 200)
            self.assertEqual([max(abs(move[cell]) for move in wanted), max(map(sizes, wanted))], [most, most])
            self.assertLess(max(map(sizes, basis(frame))), 99)
            if most == 99:
                self.assertEqual(unparted(frame), wanted)
            else:
                self.too_many("moves", 200, unparted, frame)

    def test_cells_that_are_not_yet_looked_at(self):
        # On the way some sums have greater numbers at a later cell, which the basis makes least there.
        frame = ("frame", ((0, 5, 2, 0, 9, 0), (0, 0, 0, 3, 0, 5), (6, 5, 4, 8, 0, 0)))
        told = unparted(frame)
        self.assertEqual((len(told), told), (77, sorted(set(told))))
        self.assertTrue(all(is_unparted(frame, move) for move in told))
        for seed in range(40):
            draw = random.Random(seed)
            change = change_by(frame, tuple(draw.randint(-2, 2) for _ in range(3)))
            if sizes(change) <= 99:
                both = told + [tuple(-number for number in move) for move in told]
                self.assertLessEqual(set(parted_sum(frame, change)), set(both))

    def test_is_unparted(self):
        for _, frame, change in some_changes(4, 200):
            move = max(change, tuple(-number for number in change))
            self.assertIs(is_unparted(frame, move), is_unparted_plainly(frame, move))
        self.assertIs(is_unparted(move=(1, -2, 1), frame=COINS), True)
        self.assertIs(is_unparted(COINS, (49, -98, 49)), False)
        self.assertIs(is_unparted(linked(3), (1, -9, 81)), True)
        self.assertIs(is_unparted(BROAD, (99, -99) + (0,) * 14), False)
        self.assertIs(is_unparted(BROAD, (1,) + (0,) * 14 + (-1,)), True)

    def test_parted_sums(self):
        several = 0
        for draw, frame, change in some_changes(5, 250):
            told = parted_sum(frame, change)
            self.assertIs(type(told), list)
            self.assertTrue(is_parted_sum_plainly(frame, change, told))
            for value in (told, tuple(told), told[::-1]):
                self.assertIs(is_parted_sum(frame, change, value), True)
            for value in (told[1:], told + told[:1], [change, change], [change], [tuple(-n for n in change)],
                          [part for part in changes_within_plainly(frame, change) if any(part)][:2]):
                self.assertIs(is_parted_sum(frame, change, value), is_parted_sum_plainly(frame, change, value))
            several += len(told) > 1
        self.assertGreater(several, 80)

    def test_parted_sums_of_nought_and_of_great_changes(self):
        self.assertEqual(parted_sum(frame=HIGH, change=(0,) * 16), [])
        self.asks(is_parted_sum, COINS, (0, 0, 0), right=[[], ()], wrong=[[(0, 0, 0)], [(1, -2, 1), (-1, 2, -1)], [()]])
        for frame, change in ((COINS, (-49, 98, -49)), (BROAD, (99, -99) * 8), (SQUARE, (99, -99, -99, 99)),
                              (GRID, (99, -50, -49, -60, 99, -39, -39, -49, 88))):
            if not any(sums_plainly(frame, change)):
                told = parted_sum(frame, change)
                self.assertLessEqual(len(told), 4000)
                self.assertIs(is_parted_sum(frame, change, told), True)
        self.assertEqual(parted_sum(COINS, (-49, 98, -49)), [(-1, 2, -1)] * 49)

    def test_is_parted_sum_of_any_value(self):
        good = [(1, 0, -1), (0, 1, -1)]
        self.asks(is_parted_sum, TOTAL, (1, 1, -2), right=[good, good[::-1], tuple(good)], wrong=[
            [], (), good[:1], good + [(0, 0, 0)], [list(part) for part in good], [(1, 0, -1), (0, True, -1)],
            [(1, 0, -1), None], [Odd()], [(Odd(), 0, 0)], good + [(1, -1, 0), (-1, 1, 0)], [(1, -1, 0), (0, 2, -2)],
            [(1, 0), (0, 1)], {1: good}, "ab", [(0, 0, 0), (1, 1, -2)], [(1, 0, -1), (0, 1, 0)]])
        self.asks(is_parted_sum, TOTAL, (1, 1, -2), wrong=odd_values())
        # All add up and are within, but one is no change, or is parted.
        self.assertIs(is_parted_sum(COINS, (2, -4, 2), [(1, -2, 0), (1, -2, 2)]), False)
        self.assertIs(is_parted_sum(COINS, (2, -4, 2), [(2, -4, 2)]), False)
        self.assertIs(is_parted_sum(value=[(1, -2, 1)] * 2, change=(2, -4, 2), frame=COINS), True)

    def test_errors(self):
        self.refuses(unparted, {"frame": COINS}, "frame", InvalidFrame, WRONG_FRAMES)
        good = {"frame": COINS, "many": 2}
        self.refuses(plain_unparted, good, "frame", InvalidFrame, WRONG_FRAMES)
        self.first_refused(plain_unparted, good, [("frame", None, InvalidFrame), ("many", 0, InvalidMany)])
        self.refuses(plain_unparted, {"frame": BROAD, "many": 1}, "many", InvalidMany, [0, 10])
        good = {"frame": COINS, "move": (1, -2, 1)}
        self.refuses(is_unparted, good, "frame", InvalidFrame, WRONG_FRAMES)
        self.refuses(is_unparted, good, "move", InvalidMove, WRONG_MOVES)
        self.first_refused(is_unparted, good, [("frame", None, InvalidFrame), ("move", (0, 0, 0), InvalidMove)])
        good = {"frame": COINS, "change": (1, -2, 1)}
        for function, told in ((parted_sum, good), (is_parted_sum, dict(good, value=[]))):
            self.refuses(function, told, "frame", InvalidFrame, WRONG_FRAMES)
            self.refuses(function, told, "change", InvalidChange, WRONG_CHANGES)
            self.first_refused(function, told, [("frame", None, InvalidFrame), ("change", None, InvalidChange)])

    def test_arguments_stay_and_lists_are_new(self):
        self.kept_and_new(unparted, TOTAL)
        self.kept_and_new(plain_unparted, WORTH, 2)
        self.kept_and_new(parted_sum, WORTH, (4, 1, -2))
        self.kept_and_new(parted_sum, WORTH, (0, 0, 0))
        self.kept_and_new(is_parted_sum, TOTAL, (1, 1, -2), [(1, 0, -1), (0, 1, -1)])
