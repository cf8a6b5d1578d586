"""Patterns, stacks that come of them, roads by them [112], [113], held against plain puttings."""

import itertools
import random
import unittest

from sumroads.errors import InvalidChanges, InvalidFrame, InvalidPattern, InvalidPatterns, InvalidStack
from sumroads.kernels import basis, change_by
from sumroads.kinds import (
    closed_stacks, is_pattern, is_pattern_book, is_stack_road, pattern_ends, pattern_kind, pattern_of, stack_road,
    stack_steps)
from sumroads.layered import is_stack, stack_sums
from tests.helpers import BROAD, COINS, HIGH, Holds, Odd, SQUARE, TOTAL, WRONG_FRAMES, odd_values
from tests.putting import is_stack_road_plainly, put_plainly, stacks_by_distance, turned_plainly
from tests.test_elimination import small_frames
from tests.test_layered import GOOD, PAIR, WRONG_STACKS, total_plainly

SWAP = ((-1, 1), (1, -1))
RING = ((-1, 0, 1), (0, 1, -1), (1, -1, 0))
UP = (1, -2, 1)
DOWN = (-1, 2, -1)
COIN_SWAP = (DOWN, UP)
WRONG_PATTERNS = [
    (UP, DOWN), [DOWN, UP], (list(DOWN), UP), (DOWN,), (), (DOWN, UP, (0, 0, 0)), ((0, 0, 0), (0, 0, 0)), (DOWN, DOWN), (UP, UP),
    (DOWN,) * 5 + (UP,) * 4, (DOWN,) * 5 + (UP,) * 5, ((-1, 1, 0), (1, -1, 0)), ((-1, 2), (1, -2)), (DOWN, (True, -2, 1)),
    ((-50, 100, -50), (50, -100, 50)), (DOWN, None), (None, UP), (Odd(), UP), (DOWN, Odd()), ((Odd(), 2, -1), UP), None, 1, True, "ab",
    Odd(), {DOWN, UP}, ((-2, 4, -2), UP, UP)[::-1], ((-1, 2, -1), (-1, 2, -1), (2, -4, 2)), ((-2, 4, -2), (1, -2, 1))]
WRONG_PATTERN_BOOKS = [
    [COIN_SWAP], (COIN_SWAP, COIN_SWAP), COIN_SWAP, (COIN_SWAP[::-1],), None, 1, True, "ab", Odd(), (Odd(),), (None,), ((),),
    (((-2, 4, -2), UP, UP), COIN_SWAP, (DOWN, DOWN, UP, UP)), {COIN_SWAP}]


def random_patterns(draw, frame, many, kinds):
    """A book of some patterns of a frame, with small changes."""
    rows = len(basis(frame))
    found = set()
    for _ in range(many):
        changes = [change_by(frame, tuple(draw.randint(-1, 1) for _ in range(rows))) for _ in range(draw.choice(kinds) - 1)]
        changes.append(tuple(-sum(column) for column in zip(*changes)))
        left = tuple(sorted(change for change in changes if any(change)))
        if len(left) >= 2:
            found.add(min(left, turned_plainly(left)))
    return tuple(sorted(found))


def cases(seed, many, layers=4, size=2):
    """Tuples (draw, frame, book of patterns, stack)."""
    for draw, frame in small_frames(seed, many, 3, 2, 2):
        patterns = random_patterns(draw, frame, draw.randint(0, 3), [2, 2, 3])
        yield draw, frame, patterns, tuple(
            tuple(draw.randint(0, size) for _ in frame[1][0]) for _ in range(draw.randint(1, layers)))


class Kinds(Holds, unittest.TestCase):
    def test_examples(self):
        self.assertEqual(
            [pattern_of(PAIR, [(1, -1), (0, 0), (-1, 1)]) == SWAP, is_pattern(PAIR, SWAP[::-1]), pattern_ends(PAIR, SWAP)],
            [True, False, (((0, 1), (1, 0)), ((1, 0), (0, 1)))])
        self.assertEqual(
            [stack_steps(PAIR, (SWAP,), ((1, 0), (0, 1))), stack_road(PAIR, (SWAP,), ((2, 0), (0, 2)), ((0, 2), (2, 0)))],
            [[((0, 1), (1, 0))], (((2, 0), (0, 2)), ((1, 1), (1, 1)), ((0, 2), (2, 0)))])

    def test_is_pattern(self):
        self.asks(is_pattern, COINS, right=[
            COIN_SWAP, (DOWN, DOWN, UP, UP), ((-2, 4, -2), UP, UP), (DOWN,) * 4 + (UP,) * 4, ((-49, 98, -49), (49, -98, 49))],
            wrong=WRONG_PATTERNS + odd_values())
        self.asks(is_pattern, TOTAL, right=[RING, ((-1, 0, 1), (1, 0, -1))], wrong=[turned_plainly(RING), RING[::-1], RING[1:]])
        self.asks(is_pattern, PAIR, right=[((-99, 99), (99, -99)), ((-7, 7),) + ((1, -1),) * 7], wrong=[
            ((-100, 100), (100, -100)), ((-1, 1),) * 7 + ((7, -7),), ((-8, 8),) + ((1, -1),) * 8])
        self.asks(is_pattern, HIGH, wrong=[((0,) * 16, (0,) * 16)])
        self.assertIs(is_pattern(value=SWAP, frame=PAIR), True)

    def test_of_a_tuple_and_its_turned_one_just_the_lesser_is_a_pattern(self):
        several = 0
        for draw, frame, patterns, _ in cases(1, 200):
            for pattern in patterns:
                turned = turned_plainly(pattern)
                self.assertIs(is_pattern(frame, pattern), True)
                self.assertIs(is_pattern(frame, turned), turned == pattern)
                several += turned != pattern
        self.assertGreater(several, 20)

    def test_is_pattern_book(self):
        long = tuple(((-number, number), (number, -number)) for number in range(99, 58, -1))
        self.asks(is_pattern_book, PAIR, right=[(), (SWAP,), long[:40], long[1:]], wrong=[long, long[:3][::-1], [SWAP], (SWAP, SWAP)])
        self.asks(is_pattern_book, COINS, right=[(((-2, 4, -2), UP, UP), (DOWN, DOWN, UP, UP), COIN_SWAP)],
                  wrong=WRONG_PATTERN_BOOKS + [(pattern,) for pattern in WRONG_PATTERNS])
        self.asks(is_pattern_book, COINS, right=[()], wrong=[value for value in odd_values() if type(value) is not tuple or len(value) > 0])
        self.assertIs(is_pattern_book(value=(SWAP,), frame=PAIR), True)

    def test_pattern_of(self):
        for draw, frame, patterns, _ in cases(2, 150):
            for pattern in patterns:
                for changes in (pattern, turned_plainly(pattern)):
                    told = list(changes) + [(0,) * len(frame[1][0])] * draw.randint(0, 3)
                    draw.shuffle(told)
                    self.assertEqual(pattern_of(frame, told), pattern)
                    self.assertEqual(pattern_of(changes=tuple(told), frame=frame), pattern)
        self.assertEqual(pattern_of(PAIR, [(1, -1)] * 4 + [(0, 0)] * 50 + [(-1, 1)] * 4), ((-1, 1),) * 4 + ((1, -1),) * 4)

    def test_kinds_and_ends(self):
        for _, frame, patterns, _ in cases(3, 150):
            for pattern in patterns:
                self.assertEqual(pattern_kind(frame, pattern), len(pattern))
                ahead, behind = pattern_ends(frame, pattern)
                self.assertEqual(ahead, tuple(tuple(max(n, 0) for n in change) for change in pattern))
                self.assertEqual(behind, tuple(tuple(max(-n, 0) for n in change) for change in pattern))
                self.assertEqual(stack_sums(frame, ahead), stack_sums(frame, behind))
                self.assertIn(behind, put_plainly((pattern,), ahead))
        self.assertEqual(pattern_kind(pattern=RING, frame=TOTAL), 3)
        self.assertEqual(pattern_ends(pattern=RING, frame=TOTAL), (((0, 0, 1), (0, 1, 0), (1, 0, 0)), ((1, 0, 0), (0, 0, 1), (0, 1, 0))))
        self.assertEqual(pattern_kind(PAIR, ((-7, 7),) + ((1, -1),) * 7), 8)

    def test_steps_by_plain_puttings(self):
        several = 0
        for _, frame, patterns, stack in cases(4, 250):
            told = stack_steps(frame, patterns, stack)
            self.assertEqual(told, sorted(put_plainly(patterns, stack)))
            self.assertTrue(all(is_stack(frame, other) and total_plainly(other) == total_plainly(stack) for other in told))
            self.assertTrue(all(stack_sums(frame, other) == stack_sums(frame, stack) for other in told))
            several += len(told) > 1
        self.assertGreater(several, 30)

    def test_steps_of_patterns_with_like_changes_and_of_turned_ones(self):
        stack = ((2, 2, 2),) * 5
        for pattern in (RING, (DOWN, DOWN, UP, UP), ((-2, 4, -2), UP, UP)):
            frame = TOTAL if pattern == RING else COINS
            here = stack if pattern != ((-2, 4, -2), UP, UP) else ((4, 4, 4),) * 4
            self.assertEqual(stack_steps(frame, (pattern,), here), sorted(put_plainly((pattern,), here)))
        self.assertEqual(stack_steps(TOTAL, (RING,), ((1, 1, 1),) * 2), [])
        self.assertEqual(stack_steps(TOTAL, (), stack), [])
        # The ring goes on three unlike layers, either way round.
        self.assertEqual(len(stack_steps(TOTAL, (RING,), stack)), 2 * 5 * 4 * 3)

    def test_closed_lots_and_roads_by_plain_walks(self):
        joined = {True: 0, False: 0}
        for draw, frame, patterns, stack in cases(5, 200, 3, 1):
            distances = stacks_by_distance(patterns, stack)
            self.assertEqual(closed_stacks(frame, patterns, stack), sorted(distances))
            others = [draw.choice(sorted(distances)), tuple(draw.sample(stack, len(stack)))]
            for other in others:
                told = stack_road(frame, patterns, stack, other)
                joined[told is not None] += 1
                if other not in distances:
                    self.assertIs(told, None)
                    continue
                self.assertEqual((type(told), told[0], told[-1], len(told)), (tuple, stack, other, distances[other] + 1))
                self.assertTrue(is_stack_road_plainly(patterns, told))
                self.assertIs(is_stack_road(frame, patterns, told), True)
                self.assertIs(is_stack_road(frame, patterns, told[::-1]), True)
        self.assertGreater(min(joined.values()), 20)

    def test_is_stack_road(self):
        one, two, three = ((2, 0), (0, 2)), ((1, 1), (1, 1)), ((0, 2), (2, 0))
        self.asks(is_stack_road, PAIR, (SWAP,), right=[(one,), (one, two), (one, two, one, two, three), (((5, 5),) * 8,)], wrong=[
            (), [one], (one, three), (one, one), (one, list(two)), (one, two, None), (one, (two[0],)), (one, two + ((0, 0),)),
            one, (one, ((1, True), (1, 1))), (one, ((1, 1), (1, 2))), (Odd(),), (one, Odd()), (one, ((2, -1), (0, 3)))])
        self.asks(is_stack_road, PAIR, (SWAP,), wrong=odd_values())
        self.assertIs(is_stack_road(PAIR, (), (one, two)), False)
        self.assertIs(is_stack_road(PAIR, (), (one,)), True)
        for draw, frame, patterns, stack in cases(6, 150, 3, 1):
            road = [stack]
            for _ in range(draw.randint(0, 3)):
                road.append(draw.choice(sorted(put_plainly(patterns, road[-1])) or [road[-1]]))
            if draw.random() < 0.4:
                road.append(tuple(draw.sample(road[-1], len(stack))))
            self.assertIs(is_stack_road(frame, patterns, tuple(road)), is_stack_road_plainly(patterns, road))
        self.assertIs(is_stack_road(value=(one, two), patterns=(SWAP,), frame=PAIR), True)

    def test_sums_to_20000(self):
        here, there = ((20000, 0), (0, 20000)), ((19999, 1), (1, 19999))
        self.assertEqual(stack_steps(PAIR, (SWAP,), here), [there])
        self.assertIs(is_stack_road(PAIR, (SWAP,), (here, there)), True)
        self.too_many("stacks", 2000, closed_stacks, PAIR, (SWAP,), here)

    def test_2000_stacks_and_more(self):
        swaps = (SWAP,)
        self.assertEqual(len(closed_stacks(PAIR, swaps, ((1999, 0), (0, 1999)))), 2000)
        self.too_many("stacks", 2000, closed_stacks, PAIR, swaps, ((2000, 0), (0, 2000)))
        self.assertEqual(len(stack_road(PAIR, swaps, ((1999, 0), (0, 1999)), ((0, 1999), (1999, 0)))), 2000)
        far = ((2000, 0), (0, 2000))
        for other in (far, far[::-1], ((5, 5), (5, 5))):
            self.too_many("stacks", 2000, stack_road, PAIR, swaps, far, other)
        self.assertIs(stack_road(PAIR, swaps, ((5, 5), (5, 5)), far), None)
        # Of 16 cells each change of one up and one down; with k patterns 2 * 6 * 5 stacks each, all valid.
        moves = [tuple(int(at == up) - int(at == down) for at in range(16)) for up, down in itertools.combinations(range(16), 2)]
        book = tuple(sorted((tuple(-n for n in move), move) for move in moves))[:40]
        stack = ((9,) * 16,) * 6
        self.assertEqual(len(stack_steps(BROAD, book[:40], stack)), 40 * 30)
        stack = ((9,) * 16,) * 7
        self.assertEqual(len(stack_steps(BROAD, book[:40], stack)), 40 * 42)
        stack = ((9,) * 16,) * 8
        self.assertEqual(len(stack_steps(BROAD, book[:35], stack)), 35 * 56)
        self.too_many("stacks", 2000, stack_steps, BROAD, book[:36], stack)
        self.too_many("stacks", 2000, closed_stacks, BROAD, book[:36], stack)
        self.too_many("stacks", 2000, stack_road, BROAD, book[:36], stack, stack)
        # The k-th pattern goes from each layer with k in its first cell to each other one with k in its second: 10 * 56 + 25 * 49
        # + 5 * 43 ways; with one more in the last layer 7 more.
        book = tuple(sorted(((-k, k), (k, -k)) for k in range(1, 41)))
        self.assertEqual(len(stack_steps(PAIR, book, ((50, 50),) * 6 + ((50, 35), (10, 50)))), 2000)
        self.too_many("stacks", 2000, stack_steps, PAIR, book, ((50, 50),) * 6 + ((50, 35), (11, 50)))
        # 8 * 7 * 6 * 5 / 4 = 420 for (a, a, b, b), which is itself turned.
        self.assertEqual(len(stack_steps(COINS, ((DOWN, DOWN, UP, UP),), ((9, 9, 9),) * 8)), 420)

    def test_eight_layers_that_hardly_fit(self):
        draw = random.Random(7)
        pattern = tuple(sorted([(-7, 7)] + [(1, -1)] * 7))
        for _ in range(3):
            stack = tuple((draw.randint(0, 8), draw.choice([0, 1, 1])) for _ in range(8))
            self.assertEqual(stack_steps(PAIR, (pattern,), stack), sorted(put_plainly((pattern,), stack)))

    def test_errors(self):
        for function in (is_pattern, is_pattern_book):
            self.refuses(function, {"frame": COINS, "value": ()}, "frame", InvalidFrame, WRONG_FRAMES)
        good = {"frame": COINS, "changes": [UP, DOWN]}
        self.refuses(pattern_of, good, "frame", InvalidFrame, WRONG_FRAMES)
        self.refuses(pattern_of, good, "changes", InvalidChanges, [
            [UP], [], [UP, UP], [UP, (0, 0, 0)], [(0, 0, 0)] * 2, [UP, DOWN, (1, -1, 0)], [UP, list(DOWN)], [UP, (-1, 2, True)],
            [(50, -100, 50), (-50, 100, -50)], [UP] * 5 + [DOWN] * 5, {UP: DOWN}, None, 1, True, "ab", Odd(), [Odd()], [UP, DOWN, None],
            [(1, -2), (-1, 2)], ([UP], [DOWN])])
        self.first_refused(pattern_of, good, [("frame", None, InvalidFrame), ("changes", [], InvalidChanges)])
        good = {"frame": COINS, "pattern": COIN_SWAP}
        for function in (pattern_kind, pattern_ends):
            self.refuses(function, good, "frame", InvalidFrame, WRONG_FRAMES)
            self.refuses(function, good, "pattern", InvalidPattern, WRONG_PATTERNS)
            self.first_refused(function, good, [("frame", None, InvalidFrame), ("pattern", None, InvalidPattern)])

    def test_errors_of_stacks(self):
        good = {"frame": COINS, "patterns": (COIN_SWAP,), "stack": GOOD}
        wrongs = [("frame", None, InvalidFrame), ("patterns", None, InvalidPatterns), ("stack", (), InvalidStack)]
        for function in (stack_steps, closed_stacks):
            self.refuses(function, good, "frame", InvalidFrame, WRONG_FRAMES)
            self.refuses(function, good, "patterns", InvalidPatterns, WRONG_PATTERN_BOOKS)
            self.refuses(function, good, "stack", InvalidStack, WRONG_STACKS)
            self.first_refused(function, good, wrongs)
        good = dict(good, other=GOOD[::-1])
        self.refuses(stack_road, good, "frame", InvalidFrame, WRONG_FRAMES)
        self.refuses(stack_road, good, "patterns", InvalidPatterns, WRONG_PATTERN_BOOKS)
        self.refuses(stack_road, good, "stack", InvalidStack, WRONG_STACKS)
        self.refuses(stack_road, good, "other", InvalidStack, WRONG_STACKS + [GOOD[:2], GOOD + GOOD[:1]])
        self.first_refused(stack_road, good, wrongs + [("other", GOOD[:1], InvalidStack)])
        good = {"frame": COINS, "patterns": (), "value": ()}
        self.refuses(is_stack_road, good, "frame", InvalidFrame, WRONG_FRAMES)
        self.refuses(is_stack_road, good, "patterns", InvalidPatterns, WRONG_PATTERN_BOOKS)
        self.first_refused(is_stack_road, good, wrongs[:2])
        self.refuses(stack_road, {"frame": PAIR, "patterns": (SWAP,), "stack": ((2000, 0), (0, 2000)), "other": 0}, "other",
                     InvalidStack, [0, ((0, 0),)])

    def test_arguments_stay_and_lists_are_new(self):
        here, there = ((2, 0), (0, 2)), ((0, 2), (2, 0))
        self.kept_and_new(pattern_of, PAIR, [(1, -1), (0, 0), (-1, 1)])
        for function in (stack_steps, closed_stacks):
            self.assertIs(type(self.kept_and_new(function, PAIR, (SWAP,), here)), list)
            self.assertIs(type(self.kept_and_new(function, PAIR, (), here)), list)
        self.assertIs(type(self.kept_and_new(stack_road, PAIR, (SWAP,), here, there)), tuple)
        self.assertIs(type(self.kept_and_new(pattern_ends, PAIR, SWAP)), tuple)
        self.assertEqual(stack_road(PAIR, (SWAP,), here, here), (here,))
        self.assertIs(stack_road(SQUARE, (), ((1, 0, 0, 1),), ((0, 1, 1, 0),)), None)
