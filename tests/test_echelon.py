"""Lots of rows [12] to [15]: stepped rows, leadings, whole sums, solutions and bars."""

import math
import random
import unittest
from fractions import Fraction

from sumroads.echelon import (
    bar, is_bar, is_leading, is_solution, leading, rank, same_span, solved, stepped, whole_sum)
from sumroads.errors import InvalidGoal, InvalidRow, InvalidRows, UnlikeLengths
from tests.helpers import Holds, Odd, odd_values

MILLION = 10 ** 6
WRONG_ROWS = [
    [], (), [(1, 2), (1,)], [(1, 2), [1, 2]], [(1, True)], [(MILLION + 1,)], [(1,)] * 17, [()], (1, 2), [1], "12",
    None, 5, True, [(1,), Odd()], Odd(), {(1,): (1,)}, [tuple([0] * 41)], [("1",)], {(1, 2)},
]


def combined(rows, times, length):
    return tuple(sum(many * row[at] for many, row in zip(times, rows)) for at in range(length))


def first(row):
    return next((at for at, number in enumerate(row) if number), None)


def fraction_rank(rows):
    """The rank, and the determinant of a square lot, by plain fractions."""
    left = [[Fraction(number) for number in row] for row in rows]
    found, value = 0, Fraction(1)
    for at in range(len(rows[0])):
        pivot = next((k for k in range(found, len(left)) if left[k][at]), None)
        if pivot is None:
            continue
        if pivot != found:
            left[found], left[pivot] = left[pivot], left[found]
            value = -value
        value *= left[found][at]
        for k in range(found + 1, len(left)):
            times = left[k][at] / left[found][at]
            left[k] = [a - times * b for a, b in zip(left[k], left[found])]
        found += 1
    return found, value


def is_small(value):
    if isinstance(value, int):
        return abs(value) < 10 ** 400
    return all(is_small(part) for part in value)


def random_lots(seed, many):
    draw = random.Random(seed)
    for _ in range(many):
        length = draw.choice([1, 2, 3, 4, 8])
        size = draw.choice([1, 2, 9, 60])
        rows = [tuple(draw.randint(-size, size) for _ in range(length)) for _ in range(draw.randint(1, 5))]
        if draw.random() < 0.4:
            rows.append(combined(rows, [draw.randint(-2, 2) for _ in rows], length))
        if draw.random() < 0.2:
            rows.insert(draw.randint(0, len(rows)), tuple([0] * length))
        yield rows


def great_lots():
    draw = random.Random(11)
    wide = [tuple(draw.randint(-MILLION, MILLION) for _ in range(40)) for _ in range(16)]
    square = [tuple(draw.randint(-MILLION, MILLION) for _ in range(16)) for _ in range(16)]
    tall = [tuple(draw.randint(-MILLION, MILLION) for _ in range(5)) for _ in range(16)]
    few = [tuple(draw.randint(-1000, 1000) for _ in range(40)) for _ in range(7)]
    made = [combined(few, [draw.randint(-50, 50) for _ in few], 40) for _ in range(9)]
    even = [tuple(6 * draw.randint(-9, 9) for _ in range(40)) for _ in range(16)]
    return [wide, square, tall, few + made, even, [tuple([0] * 40)] * 16, [tuple([MILLION] * 40)] * 16]


class Stepped(Holds, unittest.TestCase):
    def held(self, rows):
        """Stepped rows and their leading, by the words of the document."""
        told = stepped(rows)
        length = len(rows[0])
        self.assertIs(type(told), list)
        self.assertEqual([len(row) for row in told], [length] * len(rows))
        heads = [first(row) for row in told]
        many = len([at for at in heads if at is not None])
        self.assertEqual(heads[many:], [None] * (len(rows) - many))
        for k in range(many):
            self.assertGreater(told[k][heads[k]], 0)
            self.assertTrue(all(at < heads[k] for at in heads[:k]))
            self.assertTrue(all(0 <= row[heads[k]] < told[k][heads[k]] for row in told[:k]))
        self.assertEqual(rank(rows), many)
        self.assertEqual(fraction_rank(rows)[0], many)
        times = leading(rows)
        self.assertIs(type(times), tuple)
        self.assertTrue(all(type(part) is tuple and len(part) == len(rows) for part in times))
        self.assertEqual([combined(rows, part, length) for part in times], told)
        self.assertIn(fraction_rank(times)[1], (1, -1))
        self.assertEqual(fraction_rank(times)[0], len(rows))
        self.assertTrue(is_small(times) and is_small(told))
        self.assertIs(is_leading(rows, times), True)
        self.assertTrue(same_span(rows, list(rows)[::-1]))

    def test_examples(self):
        self.assertEqual(
            [stepped([(4, 2), (6, 3)]), stepped([(4, 1), (2, 3)]), rank([(4, 2), (6, 3)]),
             same_span([(1, 1), (0, 2)], [(1, -1), (2, 0)]), whole_sum([(2, 0)], (3, 0)),
             is_leading([(4, 2), (6, 3)], leading([(4, 2), (6, 3)]))],
            [[(2, 1), (0, 0)], [(2, 3), (0, 5)], 1, True, None, True])
        self.assertEqual(
            [solved([(2, 4)], (3,)), is_bar([(2, 4)], (3,), ((1, 2),)), bar([(2, 3)], (1,)),
             is_solution([(2, 3)], (1,), solved([(2, 3)], (1,))), is_bar([(2, 3)], (1,), ((1, 2),)),
             is_leading([(4, 2), (6, 3)], ((-1, 1), (0, 0)))], [None, True, None, True, False, False])

    def test_by_their_words(self):
        for rows in random_lots(3, 250):
            self.held(rows)

    def test_great_ones(self):
        for rows in great_lots():
            self.held(rows)

    def test_the_same_for_all_rows_with_one_span(self):
        draw = random.Random(4)
        for rows in random_lots(5, 100):
            wanted = stepped(rows)
            others = list(rows)
            for _ in range(6):
                at, other = draw.randrange(len(rows)), draw.randrange(len(rows))
                if at != other:
                    others[at] = tuple(a + b for a, b in zip(others[at], others[other]))
                others[at] = tuple(-number for number in others[at])
                others = others[::-1]
            self.assertEqual(stepped(others), wanted)
            self.assertEqual(stepped(tuple(others)), wanted)
            self.assertIs(same_span(rows, others), True)

    def test_single_rows(self):
        self.assertEqual(stepped([(0,)]), [(0,)])
        self.assertEqual(stepped([(-3,)]), [(3,)])
        self.assertEqual(stepped(rows=[(0, -4, 6)]), [(0, 4, -6)])
        self.assertEqual(rank([tuple([0] * 40)]), 0)
        self.assertEqual(rank(rows=((0, 1),)), 1)
        self.assertEqual(leading(rows=[(-5,)]), ((-1,),))

    def test_is_leading(self):
        rows = [(4, 2), (6, 3)]
        self.asks(is_leading, rows, right=[((-1, 1), (3, -2)), ((2, -1), (-3, 2)), ((-1, 1), (-3, 2))], wrong=[
            ((-1, 1), (6, -4)), ((-1, 1),), ((-1, 1), (3, -2), (0, 0)), [(-1, 1), (3, -2)], ((-1, 1), [3, -2]),
            ((-1, 1), (3, -2, 0)), ((3, -2), (-1, 1)), ((-1, True), (3, -2)), ((-1, 1), (3, Odd())), (1, 2)])
        self.asks(is_leading, rows, wrong=odd_values())
        self.asks(is_leading, [(1, 0), (0, 1)], right=[((1, 0), (0, 1))], wrong=[((1, False), (0, 1)), ((True, 0), (0, 1))])
        self.asks(is_leading, [(0,), (0,)], right=[((1, 0), (0, 1)), ((5, 2), (2, 1))], wrong=[((2, 0), (0, 1))])

    def test_same_span(self):
        self.assertIs(same_span([(2, 0), (0, 2)], [(2, 2), (0, 2)]), True)
        self.assertIs(same_span([(2, 0)], [(1, 0)]), False)
        self.assertIs(same_span([(0, 0)], [(0, 0), (0, 0)]), True)
        self.assertIs(same_span([(1, 0)], [(1, 0), (0, 3)]), False)
        self.assertIs(same_span(others=[(-1,)], rows=[(1,), (2,)]), True)

    def test_whole_sum(self):
        draw = random.Random(6)
        for rows in random_lots(7, 200):
            length = len(rows[0])
            row = combined(rows, [draw.randint(-5, 5) for _ in rows], length)
            self.made(rows, row)
            other = tuple(number + draw.choice([0, 0, 1]) for number in row)
            if whole_sum(rows, other) is None:
                self.assertIs(same_span(rows, (list(rows) + [other])[:16]), False)
            else:
                self.made(rows, other)
        self.assertEqual(whole_sum(row=(6,), rows=[(3,)]), (2,))
        self.assertIs(whole_sum([(0, 0)], (0, 1)), None)
        self.assertIs(whole_sum([(2, 1), (0, 0)], (2, 2)), None)

    def made(self, rows, row):
        times = whole_sum(rows, row)
        self.assertIs(type(times), tuple)
        self.assertEqual(len(times), len(rows))
        self.assertEqual(combined(rows, times, len(row)), row)
        self.assertTrue(is_small(times))

    def test_whole_sums_of_great_rows(self):
        for rows in great_lots():
            self.made(rows, rows[3])
            self.made(rows, tuple([0] * len(rows[0])))
            self.made(rows, tuple(-number for number in rows[-1]))

    def test_errors(self):
        row = [(1, 2)]
        for function in (stepped, rank, leading):
            self.refuses(function, {"rows": row}, "rows", InvalidRows, WRONG_ROWS)
        self.refuses(is_leading, {"rows": row, "value": ((1,),)}, "rows", InvalidRows, WRONG_ROWS)
        good = {"rows": row, "others": row}
        self.refuses(same_span, good, "rows", InvalidRows, WRONG_ROWS)
        self.refuses(same_span, good, "others", InvalidRows, WRONG_ROWS)
        self.first_refused(same_span, good, [("rows", [], InvalidRows), ("others", [(True,)], InvalidRows)])
        self.assertIs(type(self.error_of(same_span, {"rows": row, "others": [(1,)]})), UnlikeLengths)
        good = {"rows": row, "row": (1, 2)}
        self.refuses(whole_sum, good, "rows", InvalidRows, WRONG_ROWS)
        self.refuses(whole_sum, good, "row", InvalidRow, [(), [1, 2], (1, True), (1, MILLION + 1), None, 1, Odd()])
        self.first_refused(whole_sum, good, [("rows", (), InvalidRows), ("row", [1], InvalidRow)])
        self.assertIs(type(self.error_of(whole_sum, {"rows": row, "row": (1,)})), UnlikeLengths)

    def test_arguments_stay_and_lists_are_new(self):
        for rows in ([(4, 2), (6, 3)], ((4, 1), (2, 3)), [(0, 0)]):
            self.kept_and_new(stepped, rows)
            for function in (rank, leading):
                self.kept_and_new(function, rows)
            self.kept_and_new(same_span, rows, rows)
            self.kept_and_new(whole_sum, rows, (2, 1))


class Equations(Holds, unittest.TestCase):
    def held(self, rows, goal):
        """Just one of a solution and a bar, each by the words of the document."""
        told, barred = solved(rows, goal), bar(rows, goal)
        self.assertNotEqual(told is None, barred is None)
        if told is not None:
            self.assertIs(type(told), tuple)
            self.assertEqual(len(told), len(rows[0]))
            self.assertEqual(tuple(sum(a * b for a, b in zip(row, told)) for row in rows), goal)
            self.assertTrue(is_small(told))
            self.assertIs(is_solution(rows, goal, told), True)
            return True
        self.assertIs(type(barred), tuple)
        self.assertEqual(len(barred), len(rows))
        for number, under in barred:
            self.assertTrue(under >= 1 and math.gcd(number, under) == 1)
        self.assertTrue(is_small(barred))
        parts = [Fraction(number, under) for number, under in barred]
        for at in range(len(rows[0])):
            self.assertEqual(sum(part * row[at] for part, row in zip(parts, rows)).denominator, 1)
        self.assertNotEqual(sum(part * number for part, number in zip(parts, goal)).denominator, 1)
        self.assertIs(is_bar(rows, goal, barred), True)
        return False

    def test_random_ones(self):
        draw = random.Random(8)
        told = []
        for rows in random_lots(9, 400):
            length = len(rows[0])
            by = [draw.randint(-4, 4) for _ in range(length)]
            goal = tuple(sum(a * b for a, b in zip(row, by)) for row in rows)
            self.assertTrue(self.held(rows, goal))
            near = tuple(number + draw.choice([0, 0, 0, 1, -1, 2]) for number in goal)
            told.append(self.held(rows, near))
            told.append(self.held(rows, tuple(draw.randint(-10 ** 9, 10 ** 9) for _ in rows)))
        self.assertGreater(told.count(True), 50)
        self.assertGreater(told.count(False), 50)

    def test_great_ones(self):
        draw = random.Random(10)
        for rows in great_lots():
            by = [draw.randint(-2, 2) for _ in rows[0]]
            self.assertTrue(self.held(rows, tuple(sum(a * b for a, b in zip(row, by)) for row in rows)))
            for _ in range(3):
                self.held(rows, tuple(draw.randint(-10 ** 9, 10 ** 9) for _ in rows))

    def test_goals_at_the_bound(self):
        self.assertEqual(solved([(1,)], (10 ** 9,)), (10 ** 9,))
        self.assertEqual(solved(goal=(-10 ** 9,), rows=[(1,)]), (-10 ** 9,))
        self.assertEqual(solved([(0, 0)], (0,)), (0, 0))
        self.assertFalse(self.held([(0, 0)], (720720,)))
        self.assertFalse(self.held([(2, 0), (0, 0), (1, 1)], (2, 6, 5)))
        self.assertFalse(self.held([(1, 1), (1, 1), (3, 5)], (4, 6, 1)))
        self.assertFalse(self.held([(0, 0), (6, 4)], (0, 3)))
        self.assertIs(bar(goal=(0,), rows=[(1,)]), None)

    def test_is_solution(self):
        rows, goal = [(2, 3), (0, 1)], (1, 1)
        self.asks(is_solution, rows, goal, right=[(-1, 1)], wrong=[
            (-1, True), [-1, 1], (1, 1), (-1,), (-1, 1, 0), (), "11", ((-1, 1),), (-1, Odd())])
        self.asks(is_solution, rows, goal, wrong=odd_values())
        self.asks(is_solution, [(0,)], (0,), right=[(10 ** 29,), (0,)], wrong=[(False,), (None,)])

    def test_is_bar(self):
        rows, goal = [(2, 4), (3, 3)], (3, 3)
        self.asks(is_bar, rows, goal, right=[((1, 2), (0, 1)), ((-1, 2), (1, 1)), ((3, 2), (5, 3))], wrong=[
            ((2, 4), (0, 1)), ((1, 2), (0, 2)), ((1, 2),), ((1, 2), (0, 1), (0, 1)), [(1, 2), (0, 1)],
            ([1, 2], (0, 1)), ((1, -2), (0, 1)), ((-1, -2), (0, 1)), ((1, 2), (False, 1)), ((True, 2), (0, 1)),
            ((1, 2), (0, True)), ((1, 2), 0), ((1, 3), (0, 1)), ((1, 1), (1, 1)), ((1, 0), (0, 1)),
            ((1, 2, 3), (0, 1)), ((0, 1), (0, 1)), ((0, 1), (1, 3)), ((1, 2), (Odd(), 1)), ((1, 2), Odd())])
        self.asks(is_bar, rows, goal, wrong=odd_values())

    def test_errors(self):
        wrong_goals = [
            (), (1, 2), [1], (True,), (10 ** 9 + 1,), (-10 ** 9 - 1,), (None,), ("1",), None, 1, True, Odd(), (Odd(),)]
        for function in (solved, bar, is_solution, is_bar):
            good = {"rows": [(1, 2)], "goal": (1,)}
            if function in (is_solution, is_bar):
                good["value"] = (1, 0)
            self.refuses(function, good, "rows", InvalidRows, WRONG_ROWS)
            self.refuses(function, good, "goal", InvalidGoal, wrong_goals)
            self.first_refused(function, good, [("rows", [(1,)] * 17, InvalidRows), ("goal", [1], InvalidGoal)])

    def test_arguments_stay(self):
        self.kept_and_new(solved, [(2, 3)], (1,))
        self.kept_and_new(bar, [(2, 4)], (1,))
