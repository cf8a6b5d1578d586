"""Stacks and layered frames [111], held against listings of each layer's lot."""

import itertools
import random
import unittest

from sumroads.errors import InvalidFrame, InvalidMany, InvalidStack
from sumroads.kernels import is_frame
from sumroads.layered import flat_of, is_stack, layered_frame, stack_sums, stacks_with
from sumroads.lots import lot, sums_of
from tests.helpers import BROAD, COINS, HIGH, Holds, Odd, SQUARE, TOTAL, WRONG_FRAMES, lot_plainly, odd_values, sums_plainly
from tests.test_elimination import small_frames
from tests.test_unparted import grid

PAIR = ("frame", ((1, 1),))
GOOD = ((1, 2, 1), (0, 0, 0), (0, 4, 0))
WRONG_STACKS = [
    (), list(GOOD), (list(GOOD[0]),) + GOOD[1:], GOOD[0], (GOOD,), ((1, 2), (0, 0)), ((1, 2, 1), (1, 2)), ((1, 2, True),),
    ((1, -2, 1),), ((20001, 0, 0),), ((0, 0, 6667),), ((10001, 0, 0), (10000, 0, 0)), GOOD[:1] * 9, None, 1, True, "abc", Odd(),
    (Odd(),), (None,), ((1, 2, 1), None), ((Odd(), 0, 0),), {GOOD}]


def total_plainly(stack):
    return tuple(sum(column) for column in zip(*stack))


def stacks_plainly(frame, stack):
    lots = [lot_plainly(frame, sums_plainly(frame, table)) for table in stack]
    return sorted(other for other in itertools.product(*lots) if total_plainly(other) == total_plainly(stack))


def some_stacks(seed, many, layers=3, size=2):
    for draw, frame in small_frames(seed, many, 3, 2, 3):
        yield frame, tuple(
            tuple(draw.randint(0, size) for _ in frame[1][0]) for _ in range(draw.randint(1, layers)))


class Layered(Holds, unittest.TestCase):
    def test_examples(self):
        self.assertEqual(
            [is_stack(PAIR, ((1, 0), (0, 1))), stack_sums(PAIR, ((1, 0), (0, 1))), flat_of(PAIR, ((1, 0), (0, 1))),
             stacks_with(PAIR, ((1, 0), (0, 1)))],
            [True, (((1,), (1,)), (1, 1)), (1, 0, 0, 1), [((0, 1), (1, 0)), ((1, 0), (0, 1))]])
        self.assertEqual(layered_frame(PAIR, 2), ("frame", ((1, 1, 0, 0), (0, 0, 1, 1), (1, 0, 1, 0), (0, 1, 0, 1))))

    def test_is_stack(self):
        self.asks(is_stack, COINS, right=[GOOD, GOOD[:1], GOOD[:1] * 8, ((0, 0, 6666),), ((0, 0, 0),) * 8], wrong=WRONG_STACKS)
        self.asks(is_stack, COINS, wrong=odd_values())
        self.asks(is_stack, PAIR, right=[((10000, 0), (10000, 0)), ((2500, 2500),) * 8, ((20000, 0), (0, 20000))],
                  wrong=[((10000, 0), (10001, 0)), ((2501, 0),) * 8, ((10001, 10000), (0, 0))])
        self.asks(is_stack, HIGH, right=[((20000,) * 16,)], wrong=[((20000,) * 16, (1,) + (0,) * 15)])
        self.assertIs(is_stack(value=GOOD, frame=COINS), True)

    def test_sums_and_flat_ones(self):
        for frame, stack in some_stacks(1, 150, 8):
            self.assertEqual(stack_sums(frame, stack), (tuple(sums_plainly(frame, table) for table in stack), total_plainly(stack)))
            self.assertEqual(flat_of(frame, stack), sum(stack, ()))
        self.assertEqual(stack_sums(stack=((20000, 0), (0, 20000)), frame=PAIR), (((20000,), (20000,)), (20000, 20000)))
        self.assertEqual(flat_of(stack=GOOD, frame=COINS), (1, 2, 1, 0, 0, 0, 0, 4, 0))

    def test_layered_frames(self):
        for draw, frame in small_frames(2, 200, 4, 3, 9):
            many = draw.randint(1, 8)
            rows, cells = frame[1], len(frame[1][0])
            if many * cells > 16:
                self.too_many("cells", 16, layered_frame, frame, many)
            elif many * len(rows) + cells > 16:
                self.too_many("rows", 16, layered_frame, frame, many)
            else:
                wanted = [(0,) * (cells * at) + row + (0,) * (cells * (many - 1 - at)) for at in range(many) for row in rows]
                wanted += [tuple(int(at % cells == cell) for at in range(many * cells)) for cell in range(cells)]
                told = layered_frame(frame, many)
                self.assertEqual(told, ("frame", tuple(wanted)))
                self.assertIs(is_frame(told), True)

    def test_cells_and_rows_to_16_and_more(self):
        self.assertEqual(len(layered_frame(PAIR, 8)[1]), 10)
        self.too_many("cells", 16, layered_frame, TOTAL, 6)
        self.assertEqual(len(layered_frame(TOTAL, 5)[1]), 8)
        self.too_many("rows", 16, layered_frame, BROAD, 1)
        self.too_many("rows", 16, layered_frame, HIGH, 1)
        self.too_many("cells", 16, layered_frame, HIGH, 2)
        rows = ("frame", ((1, 0), (0, 1), (1, 1)))
        self.assertEqual(len(layered_frame(rows, 4)[1]), 14)
        self.too_many("rows", 16, layered_frame, rows, 5)
        self.assertEqual(len(layered_frame(("frame", ((1, 0), (0, 1))), 7)[1]), 16)
        self.too_many("rows", 16, layered_frame, ("frame", ((1, 0), (0, 1))), 8)
        self.assertEqual(layered_frame(many=1, frame=PAIR), ("frame", ((1, 1), (1, 0), (0, 1))))

    def test_stacks_with_the_same_sums(self):
        several = 0
        for frame, stack in some_stacks(3, 200):
            told = stacks_with(frame, stack)
            self.assertEqual(told, stacks_plainly(frame, stack))
            self.assertTrue(all(stack_sums(frame, other) == stack_sums(frame, stack) for other in told))
            several += len(told) > 1
        self.assertGreater(several, 40)

    def test_stacks_are_the_tables_of_the_layered_frame(self):
        done = 0
        for frame, stack in some_stacks(4, 120, 4):
            if len(stack) * len(frame[1]) + len(frame[1][0]) <= 16 and len(sum(stack, ())) <= 16:
                whole = layered_frame(frame, len(stack))
                flat = flat_of(frame, stack)
                told = stacks_with(frame, stack)
                self.assertEqual([flat_of(frame, other) for other in told], lot(whole, sums_of(whole, flat)))
                done += 1
        self.assertGreater(done, 60)

    def test_stacks_of_1_to_8_layers(self):
        for many in range(1, 9):
            stack = ((1, 0),) + ((0, 1),) * (many - 1)
            self.assertEqual(stacks_with(PAIR, stack), sorted(set(itertools.permutations(stack))))
        self.assertEqual(stacks_with(stack=((1, 2, 1),), frame=COINS), [((1, 2, 1),)])
        self.assertEqual(stacks_with(COINS, ((0, 0, 0),) * 8), [((0, 0, 0),) * 8])
        self.assertEqual(stacks_with(HIGH, (tuple(range(16)),) * 3), [(tuple(range(16)),) * 3])
        cells = tuple(tuple(int(at == cell) for at in range(16)) for cell in range(16))
        self.assertEqual(len(stacks_with(BROAD, cells[:6])), 720)
        self.assertEqual(len(stacks_with(grid(2, 2), ((1, 0, 0, 1), (0, 1, 1, 0), (1, 0, 0, 1)))), 3)

    def test_2000_stacks_and_more(self):
        self.assertEqual(len(stacks_with(PAIR, ((1999, 0), (0, 1999)))), 2000)
        self.too_many("stacks", 2000, stacks_with, PAIR, ((2000, 0), (0, 2000)))
        # Six unlike cells in as many layers can stand in 720 ways, seven in 5,040.
        cells = tuple(tuple(int(at == cell) for at in range(16)) for cell in range(16))
        self.too_many("stacks", 2000, stacks_with, BROAD, cells[:7])
        self.too_many("stacks", 2000, stacks_with, BROAD, ((20,) * 16,) * 8)
        self.assertEqual(len(stacks_with(BROAD, ((20,) * 16, (0,) * 16, (0,) * 16))), 1)
        coins = ("frame", ((2, 3),))
        self.assertEqual(len(stacks_with(coins, ((5997, 0), (0, 3998)))), 2000)
        self.too_many("stacks", 2000, stacks_with, coins, ((6000, 0), (0, 4000)))
        # The lots of both layers have far more tables, of which few fit together.
        self.assertEqual(len(stacks_with(coins, ((6000, 0), (6000, 0)))), 1)

    def test_ways_that_lead_nowhere(self):
        # Of two cells with 2 and 3 a layer with the sum 1 can't be filled: ways that leave it are left.
        frame = ("frame", ((2, 3, 5),))
        draw = random.Random(6)
        for _ in range(60):
            stack = tuple(tuple(draw.choice([0, 0, 1, 2]) for _ in range(3)) for _ in range(4))
            self.assertEqual(stacks_with(frame, stack), stacks_plainly(frame, stack))

    def test_errors(self):
        good = {"frame": COINS, "stack": GOOD}
        for function in (stack_sums, flat_of, stacks_with):
            self.refuses(function, good, "frame", InvalidFrame, WRONG_FRAMES)
            self.refuses(function, good, "stack", InvalidStack, WRONG_STACKS)
            self.first_refused(function, good, [("frame", None, InvalidFrame), ("stack", None, InvalidStack)])
        self.refuses(is_stack, {"frame": COINS, "value": ()}, "frame", InvalidFrame, WRONG_FRAMES)
        good = {"frame": PAIR, "many": 2}
        self.refuses(layered_frame, good, "frame", InvalidFrame, WRONG_FRAMES)
        self.refuses(layered_frame, good, "many", InvalidMany, [0, 9, -1, True, False, None, "2", (2,), [2], Odd()])
        self.first_refused(layered_frame, good, [("frame", None, InvalidFrame), ("many", 0, InvalidMany)])
        self.refuses(layered_frame, {"frame": HIGH, "many": 2}, "many", InvalidMany, [0, 9, True])

    def test_arguments_stay_and_lists_are_new(self):
        self.assertIs(type(self.kept_and_new(stacks_with, PAIR, ((1, 0), (0, 1)))), list)
        for function, told in ((stack_sums, (COINS, GOOD)), (flat_of, (COINS, GOOD)), (layered_frame, (PAIR, 2))):
            self.assertIs(type(self.kept_and_new(function, *told)), tuple)
        self.assertIs(is_stack(SQUARE, ((1, 0, 0, 1),) * 2), True)
        self.assertIs(is_stack(TOTAL, ((1, 0, 0, 1),)), False)
