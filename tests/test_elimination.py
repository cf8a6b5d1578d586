"""Whole rules by sums [71], [72]: sum letters, sum rules, elimination rules."""

import itertools
import random
import unittest

from sumroads.ends import end_of
from sumroads.elimination import elimination_rules, rules_by_sums, sum_order, sum_rules, whole_sums
from sumroads.errors import InvalidFrame, InvalidMonomial
from sumroads.reduced import is_reduced, leads_alike, reduced
from sumroads.rules import is_rules
from tests.helpers import BROAD, COINS, HIGH, Holds, Odd, SQUARE, TOTAL, WRONG_FRAMES, lot_plainly, random_frame, sums_plainly
from tests.ruling import reduced_plainly
from tests.test_orders import greater_plainly

STEPS = ("frame", ((1, 1, 1), (0, 1, 2)))
LISTED = {"sum_order": sum_order, "sum_rules": sum_rules, "elimination_rules": elimination_rules, "rules_by_sums": rules_by_sums}


def linked(cells, last=(9, 1)):
    """A frame with one move whose numbers grow 9 times from cell to cell."""
    rows = []
    for at in range(cells - 1):
        numbers = last if at == cells - 2 else (9, 1)
        rows.append((0,) * at + numbers + (0,) * (cells - 2 - at))
    return ("frame", tuple(rows))


def beside(frame, cells):
    """The frame, and beside it so many cells of which the total alone is told."""
    many = len(frame[1][0])
    rows = tuple(row + (0,) * cells for row in frame[1])
    return ("frame", rows + ((0,) * many + (1,) * cells,))


# 193 elimination rules; a further total of k cells has k.
NEAR_200 = ("frame", ((4, 1, 1, 3, 6, 5), (7, 1, 2, 0, 0, 9), (0, 3, 0, 7, 8, 9)))


def cube_of(*sizes):
    """Three names with all told sums of two of them."""
    cells = list(itertools.product(*[range(size) for size in sizes]))
    rows = []
    for one, other in ((0, 1), (0, 2), (1, 2)):
        for at in itertools.product(range(sizes[one]), range(sizes[other])):
            rows.append(tuple(int((cell[one], cell[other]) == at) for cell in cells))
    return ("frame", tuple(rows))


THREE_WAYS = cube_of(2, 2, 3)


def whole_sums_plainly(frame, monomial):
    rows = len(frame[1])
    return tuple(a + b for a, b in zip(monomial[:rows], sums_plainly(frame, monomial[rows:])))


def small_frames(seed, many, cells=4, rows=3, most=3):
    draw = random.Random(seed)
    for _ in range(many):
        yield draw, random_frame(draw, draw.randint(1, cells), draw.randint(1, rows), draw.choice(range(1, most + 1)))


def elimination_by_words(frame):
    """By plain completion of the sum rules, which the test writes by itself."""
    rows, cells = len(frame[1]), len(frame[1][0])
    order = ("order", (1,) * rows + (0,) * cells)
    rules = []
    for cell in range(cells):
        alone = tuple(int(at == cell) for at in range(cells))
        rules.append((tuple(row[cell] for row in frame[1]) + (0,) * cells, (0,) * rows + alone))
    return order, tuple(sorted(rules))


class Elimination(Holds, unittest.TestCase):
    def test_examples(self):
        self.assertEqual(
            [sum_order(STEPS), sum_rules(STEPS), whole_sums(STEPS, (1, 0, 0, 2, 1))],
            [("order", (1, 1, 0, 0, 0)),
             (((1, 0, 0, 0, 0), (0, 0, 1, 0, 0)), ((1, 1, 0, 0, 0), (0, 0, 0, 1, 0)), ((1, 2, 0, 0, 0), (0, 0, 0, 0, 1))),
             (4, 4)])
        self.assertEqual(
            [elimination_rules(STEPS), rules_by_sums(STEPS)],
            [(((0, 0, 0, 2, 0), (0, 0, 1, 0, 1)), ((0, 1, 0, 1, 0), (0, 0, 0, 0, 1)), ((0, 1, 1, 0, 0), (0, 0, 0, 1, 0)),
              ((1, 0, 0, 0, 0), (0, 0, 1, 0, 0))), (((0, 2, 0), (1, 0, 1)),)])

    def test_orders_and_rules(self):
        for _, frame in list(small_frames(1, 100, 6, 6, 9)) + [(0, BROAD), (0, HIGH), (0, SQUARE)]:
            order, rules = elimination_by_words(frame)
            self.assertEqual(sum_order(frame), order)
            self.assertEqual(sum_rules(frame), rules)
            self.assertIs(is_rules(order, rules), True)
        # Cells of one column have rules of one ahead.
        self.assertEqual(sum_rules(("frame", ((2, 2),))), (((2, 0, 0), (0, 0, 1)), ((2, 0, 0), (0, 1, 0))))

    def test_whole_sums(self):
        for draw, frame in small_frames(2, 100, 6, 6, 9):
            letters = len(frame[1]) + len(frame[1][0])
            monomial = tuple(draw.choice([0, 1, 2, 20000]) for _ in range(letters))
            self.assertEqual(whole_sums(frame, monomial), whole_sums_plainly(frame, monomial))
        self.assertEqual(whole_sums(monomial=(1, 2, 3), frame=("frame", ((2, 1),))), (8,))

    def test_by_plain_completion(self):
        done = 0
        for _, frame in small_frames(3, 60, 4, 2, 3):
            order, rules = elimination_by_words(frame)
            wanted = reduced_plainly(order, rules, 30)
            if wanted is not None:
                done += 1
                self.assertEqual(elimination_rules(frame), wanted)
        self.assertGreater(done, 40)

    def test_reduced_rules_of_the_sum_rules(self):
        for _, frame in small_frames(4, 80, 5, 3, 4):
            told = elimination_rules(frame)
            self.assertEqual(told, reduced(sum_order(frame), sum_rules(frame)))
            self.assertIs(is_reduced(sum_order(frame), told), True)
            rows = len(frame[1])
            free = [rule for rule in told if not any(rule[0][:rows])]
            self.assertTrue(all(not any(behind[:rows]) for _, behind in free))
            self.assertEqual(rules_by_sums(frame), tuple((ahead[rows:], behind[rows:]) for ahead, behind in free))

    def test_led_alike_exactly_with_the_same_whole_sums(self):
        for draw, frame in small_frames(5, 60, 3, 2, 3):
            letters = len(frame[1]) + len(frame[1][0])
            order, rules = elimination_by_words(frame)
            told = elimination_rules(frame)
            for _ in range(6):
                one, other = (tuple(draw.randint(0, 2) for _ in range(letters)) for _ in range(2))
                alike = whole_sums_plainly(frame, one) == whole_sums_plainly(frame, other)
                self.assertIs(leads_alike(order, rules, one, other), alike)
                self.assertIs(end_of(order, told, one) == end_of(order, told, other), alike)

    def test_the_end_of_a_table_is_the_least_of_its_lot(self):
        for draw, frame in small_frames(6, 60):
            cells = len(frame[1][0])
            order = ("order", (0,) * cells)
            table = tuple(draw.randint(0, 3) for _ in range(cells))
            tables = lot_plainly(frame, sums_plainly(frame, table))
            end = end_of(order, rules_by_sums(frame), table)
            self.assertIn(end, tables)
            self.assertTrue(all(greater_plainly(order, other, end) in (0, 1) for other in tables))

    def test_greater_frames(self):
        self.assertEqual(len(elimination_rules(BROAD)), 16)
        self.assertEqual(len(elimination_rules(HIGH)), 16)
        self.assertEqual(rules_by_sums(HIGH), ())
        grid = ("frame", tuple(tuple(int(cell // 4 == row) for cell in range(16)) for row in range(4)) + tuple(
            tuple(int(cell % 4 == column) for cell in range(16)) for column in range(4)))
        self.assertEqual((len(elimination_rules(grid)), len(rules_by_sums(grid))), (100, 36))

    def test_more_than_200_rules(self):
        self.assertEqual(len(elimination_rules(NEAR_200)), 193)
        self.assertEqual(len(elimination_rules(beside(NEAR_200, 7))), 200)
        self.assertEqual(len(rules_by_sums(beside(NEAR_200, 7))), len(rules_by_sums(NEAR_200)) + 6)
        for function in (elimination_rules, rules_by_sums):
            self.too_many("rules", 200, function, beside(NEAR_200, 8))
            self.too_many("rules", 200, function, THREE_WAYS)

    def test_counts(self):
        self.assertEqual(max(max(ahead + behind) for ahead, behind in elimination_rules(linked(5))), 6561)
        self.assertEqual(max(max(ahead + behind) for ahead, behind in elimination_rules(linked(6, (3, 1)))), 3 * 6561)
        self.assertEqual(rules_by_sums(linked(3)), (((1, 0, 81), (0, 9, 0)),))
        for function in (elimination_rules, rules_by_sums):
            self.too_many("counts", 20000, function, linked(6))
            self.too_many("counts", 20000, function, linked(6, (4, 1)))

    def test_errors(self):
        for function in LISTED.values():
            self.refuses(function, {"frame": COINS}, "frame", InvalidFrame, WRONG_FRAMES)
        good = {"frame": COINS, "monomial": (0, 0, 0, 0, 0)}
        self.refuses(whole_sums, good, "frame", InvalidFrame, WRONG_FRAMES)
        self.refuses(whole_sums, good, "monomial", InvalidMonomial, [
            (0, 0, 0), (0,) * 6, [0] * 5, (0, 0, 0, 0, True), (0, 0, 0, 0, 20001), (-1, 0, 0, 0, 0), None, 0, "", Odd(),
            (Odd(), 0, 0, 0, 0), ()])
        self.first_refused(whole_sums, good, [("frame", None, InvalidFrame), ("monomial", None, InvalidMonomial)])

    def test_arguments_stay(self):
        for function in LISTED.values():
            self.assertIs(type(self.kept_and_new(function, STEPS)), tuple)
        self.kept_and_new(whole_sums, STEPS, (1, 0, 0, 2, 1))
        for frame in (TOTAL, COINS, SQUARE):
            for one, other in itertools.combinations(elimination_rules(frame), 2):
                self.assertLess(one, other)
