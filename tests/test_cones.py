"""The fences of cones, by which lots are found without long searches."""

import itertools
import random
import unittest
from fractions import Fraction

from sumroads.cones import fences_behind
from tests.helpers import random_frame


def parts_by(rows, wanted):
    """How often each of the independent rows is taken to make the wanted one, None if it is not in their span."""
    left = [[Fraction(row[at]) for row in rows] + [Fraction(wanted[at])] for at in range(len(wanted))]
    done = 0
    for column in range(len(rows)):
        pivot = next((at for at in range(done, len(left)) if left[at][column]), None)
        if pivot is None:
            return None
        left[done], left[pivot] = left[pivot], left[done]
        left[done] = [number / left[done][column] for number in left[done]]
        for at in range(len(left)):
            if at != done:
                left[at] = [a - left[at][column] * b for a, b in zip(left[at], left[done])]
        done += 1
    if any(row[-1] for row in left[done:]):
        return None
    return [row[-1] for row in left[:done]]


def are_independent(rows):
    return parts_by(rows, tuple([0] * len(rows[0]))) is not None if rows else True


def rank_of(columns):
    return max(
        many for many in range(len(columns) + 1)
        if any(are_independent(rows) for rows in itertools.combinations(columns, many)))


def fences_plainly(columns):
    """The lots of columns that lie on the greatest sides of their cone."""
    found = set()
    many = rank_of(columns)
    for rows in itertools.combinations(columns, many - 1) if columns else ():
        far = next((row for row in columns if are_independent(rows + (row,))), None)
        if far is None or not are_independent(rows):
            continue
        sides = [parts_by(rows + (far,), column)[-1] for column in columns]
        if all(side >= 0 for side in sides) or all(side <= 0 for side in sides):
            found.add(tuple(at for at, side in enumerate(sides) if side == 0))
    return found


class Cones(unittest.TestCase):
    def held(self, columns):
        told = fences_behind(columns, len(columns[0]))
        self.assertEqual(len(told), len(columns) + 1)
        for start, fences in enumerate(told):
            behind = columns[start:]
            sides = [[sum(a * b for a, b in zip(row, column)) for column in behind] for row in fences]
            self.assertTrue(all(side >= 0 for row in sides for side in row))
            marks = [tuple(at for at, side in enumerate(row) if side == 0) for row in sides]
            self.assertEqual(len(set(marks)), len(marks))
            self.assertEqual(set(marks), fences_plainly(behind))

    def test_by_all_sides(self):
        draw = random.Random(1)
        for _ in range(120):
            _, rows = random_frame(draw, draw.randint(1, 6), draw.randint(1, 4), draw.choice([1, 2, 9]))
            self.held([tuple(row[at] for row in rows) for at in range(len(rows[0]))])

    def test_a_square(self):
        columns = [(1, 0, 1, 0), (1, 0, 0, 1), (0, 1, 1, 0), (0, 1, 0, 1)]
        self.held(columns)
        self.assertEqual([len(fences) for fences in fences_behind(columns, 4)], [4, 3, 2, 1, 0])
