"""Frames and changes [5], [6], [16], [17]: the basis, numbers there and back."""

import itertools
import random
import unittest

from sumroads.errors import InvalidChange, InvalidFrame, InvalidNumbers
from sumroads.kernels import basis, change_by, is_change, is_frame, numbers_of
from sumroads.echelon import rank, stepped
from tests.helpers import (
    BROAD, COINS, HIGH, Holds, Odd, SQUARE, TOTAL, WRONG_FRAMES, odd_values, random_frame, sums_plainly)

FRAMES = [SQUARE, COINS, TOTAL, BROAD, HIGH, ("frame", ((9,),)), ("frame", ((0, 2, 4), (3, 3, 9))),
          ("frame", tuple([(1, 1)] * 16)), ("frame", (tuple(range(1, 9)) + tuple(range(2, 10)),))]


class Kernels(Holds, unittest.TestCase):
    def test_examples(self):
        self.assertEqual(
            [basis(SQUARE), basis(COINS), numbers_of(COINS, (-2, 4, -2)), change_by(SQUARE, (3,)),
             basis(("frame", ((1, 0), (0, 1))))],
            [[(1, -1, -1, 1)], [(1, -2, 1)], (-2,), (3, -3, -3, 3), []])
        self.assertEqual(
            [is_change(SQUARE, (1, -1, -1, 1)), is_change(SQUARE, [1, -1, -1, 1]), is_change(SQUARE, (1, -1, 0, 0)),
             is_frame(("frame", ((1, 0), (1, 0)))), is_frame(("frame", ((0, 10),)))],
            [True, False, False, False, False])

    def test_is_frame(self):
        self.asks(is_frame, right=FRAMES, wrong=WRONG_FRAMES + odd_values())
        self.asks(is_frame, right=[("frame", ((9, 0), (0, 9)))], wrong=[("frame", ((9, 10), (1, 1))), ("order", ((1,),))])
        self.assertIs(is_frame(value=COINS), True)

    def test_is_change(self):
        self.asks(is_change, COINS, right=[(0, 0, 0), (1, -2, 1), (-500, 1000, -500), (10 ** 29, -2 * 10 ** 29, 10 ** 29)],
                  wrong=[(1, -2, 1, 0), (1, -2), (True, -2, 1), (0, False, 0), [1, -2, 1], (1, -1, 0), (None, 0, 0),
                         (Odd(), 0, 0), ()])
        self.asks(is_change, COINS, wrong=odd_values())
        self.assertIs(is_change(value=(0,), frame=("frame", ((1,),))), True)

    def test_basis_by_its_words(self):
        draw = random.Random(1)
        frames = FRAMES + [random_frame(draw, draw.randint(1, 7), draw.randint(1, 4), 9) for _ in range(60)]
        frames += [random_frame(draw, 16, many, 9) for many in (1, 5, 8, 15, 16)]
        for frame in frames:
            rows = basis(frame)
            cells = len(frame[1][0])
            self.assertEqual(len(rows), cells - rank(list(frame[1])))
            self.assertTrue(all(not any(sums_plainly(frame, row)) for row in rows))
            self.assertTrue(all(type(row) is tuple for row in rows))
            if rows and max(abs(number) for row in rows for number in row) <= 10 ** 6:
                self.assertEqual(stepped(rows), rows)

    def test_basis_spans_all_small_changes(self):
        draw = random.Random(2)
        for _ in range(40):
            frame = random_frame(draw, draw.randint(1, 4), draw.randint(1, 3), draw.choice([1, 2, 9]))
            cells = len(frame[1][0])
            for row in itertools.product(range(-3, 4), repeat=cells):
                change = not any(sums_plainly(frame, row))
                self.assertIs(is_change(frame, row), change)
                if change:
                    told = numbers_of(frame, row)
                    self.assertIs(type(told), tuple)
                    self.assertEqual(change_by(frame, told), row)

    def test_there_and_back(self):
        draw = random.Random(3)
        for frame in FRAMES:
            many = len(basis(frame))
            for size in (0, 3, 10 ** 6):
                told = tuple(draw.randint(-size, size) for _ in range(many))
                change = change_by(frame, told)
                self.assertIs(is_change(frame, change), True)
                self.assertEqual(numbers_of(frame, change), told)
                made = [0] * len(frame[1][0])
                for row, times in zip(basis(frame), told):
                    made = [a + times * b for a, b in zip(made, row)]
                self.assertEqual(change, tuple(made))
        self.assertEqual(change_by(COINS, (10 ** 6,)), (10 ** 6, -2 * 10 ** 6, 10 ** 6))
        self.assertEqual(change_by(COINS, (-10 ** 6,)), (-10 ** 6, 2 * 10 ** 6, -10 ** 6))
        self.assertEqual(numbers_of(HIGH, tuple([0] * 16)), ())
        self.assertEqual(change_by(HIGH, ()), tuple([0] * 16))

    def test_what_is_no_change_taken_once_is_none_taken_often(self):
        frame = ("frame", ((2, 4, 6),))
        self.assertEqual(numbers_of(frame, (1, 1, -1)), numbers_of(change=(1, 1, -1), frame=frame))
        self.assertEqual(change_by(numbers=numbers_of(frame, (3, 0, -1)), frame=frame), (3, 0, -1))

    def test_errors(self):
        self.refuses(basis, {"frame": COINS}, "frame", InvalidFrame, WRONG_FRAMES + odd_values())
        self.refuses(is_change, {"frame": COINS, "value": ()}, "frame", InvalidFrame, WRONG_FRAMES)
        good = {"frame": COINS, "change": (1, -2, 1)}
        self.refuses(numbers_of, good, "frame", InvalidFrame, WRONG_FRAMES)
        self.refuses(numbers_of, good, "change", InvalidChange, [
            (1, -2), (1, -1, 0), [1, -2, 1], (True, -2, 1), None, 1, (), "a", Odd(), (Odd(), 0, 0)])
        self.first_refused(numbers_of, good, [("frame", (), InvalidFrame), ("change", [1], InvalidChange)])
        good = {"frame": COINS, "numbers": (1,)}
        self.refuses(change_by, good, "frame", InvalidFrame, WRONG_FRAMES)
        self.refuses(change_by, good, "numbers", InvalidNumbers, [
            (), (1, 2), [1], (True,), (10 ** 6 + 1,), (-10 ** 6 - 1,), None, 1, "1", (None,), Odd(), (Odd(),)])
        self.first_refused(change_by, good, [("frame", None, InvalidFrame), ("numbers", [1], InvalidNumbers)])

    def test_arguments_stay_and_lists_are_new(self):
        self.kept_and_new(basis, TOTAL)
        self.kept_and_new(numbers_of, TOTAL, (1, -1, 0))
        self.kept_and_new(change_by, TOTAL, (1, 2))
