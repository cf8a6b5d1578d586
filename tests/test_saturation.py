"""Whole rules by lending [73]: the mark, the mark rules and their reduced rules."""

import unittest

from sumroads.elimination import elimination_rules, rules_by_sums
from sumroads.errors import InvalidFrame
from sumroads.kernels import basis
from sumroads.reduced import is_reduced, reduced
from sumroads.rules import is_rules
from sumroads.saturation import mark_order, mark_rules, rules_by_lending, saturation_rules
from tests.helpers import BROAD, COINS, HIGH, Holds, SQUARE, TOTAL, WRONG_FRAMES
from tests.ruling import reduced_plainly, rule_plainly
from tests.test_elimination import STEPS, THREE_WAYS, cube_of, linked, small_frames

LISTED = {"mark_order": mark_order, "mark_rules": mark_rules, "saturation_rules": saturation_rules,
          "rules_by_lending": rules_by_lending}
AT_200 = ("frame", ((7, 2, 1, 0, 3, 5, 5, 2), (8, 4, 7, 2, 0, 2, 5, 2)))
AT_201 = ("frame", ((0, 2, 4, 3, 4, 3, 4, 1), (2, 4, 4, 4, 4, 1, 3, 0), (1, 1, 2, 3, 0, 2, 4, 0)))
WIDER = ("frame", ((9, 0, 9, 3, 9, 7, 7, 6), (4, 5, 2, 9, 4, 2, 0, 8)))

FAR = ("frame", (
    (3, 3, 4, 0, 5, 0, 8, 6), (0, 0, 0, 0, 3, 0, 5, 6), (7, 0, 7, 1, 0, 5, 0, 6), (7, 0, 3, 0, 0, 8, 0, 0),
    (0, 0, 5, 0, 9, 0, 0, 0), (0, 3, 5, 0, 4, 0, 9, 5)))


def mark_by_words(frame):
    """The mark order and the mark rules, which the test writes by itself."""
    cells = len(frame[1][0])
    order = ("order", (1,) + (0,) * cells)
    rules = [((1,) * (cells + 1), (0,) * (cells + 1))]
    for row in basis(frame):
        sides = [tuple(max(sign * number, 0) for number in row) for sign in (1, -1)]
        rules.append(rule_plainly(order, (0,) + sides[0], (0,) + sides[1]))
    return order, tuple(sorted(rules))


class Saturation(Holds, unittest.TestCase):
    def test_examples(self):
        self.assertEqual(
            [mark_order(STEPS), mark_rules(STEPS), rules_by_lending(STEPS)],
            [("order", (1, 0, 0, 0)), (((0, 0, 2, 0), (0, 1, 0, 1)), ((1, 1, 1, 1), (0, 0, 0, 0))),
             (((0, 2, 0), (1, 0, 1)),)])

    def test_orders_and_rules(self):
        for _, frame in list(small_frames(1, 100, 6, 6, 9)) + [(0, BROAD), (0, HIGH), (0, SQUARE)]:
            order, rules = mark_by_words(frame)
            self.assertEqual(mark_order(frame), order)
            self.assertEqual(mark_rules(frame), rules)
            self.assertIs(is_rules(order, rules), True)
        self.assertEqual(mark_rules(HIGH), (((1,) * 17, (0,) * 17),))

    def test_reduced_rules_of_the_mark_rules(self):
        for _, frame in small_frames(2, 120, 5, 3, 4):
            told = saturation_rules(frame)
            order, rules = mark_by_words(frame)
            self.assertEqual(told, reduced(order, rules))
            self.assertIs(is_reduced(order, told), True)
            self.assertEqual(rules_by_lending(frame), tuple((a[1:], b[1:]) for a, b in told if a[0] == 0))

    def test_by_plain_completion(self):
        done = 0
        for _, frame in small_frames(3, 40, 3, 2, 3):
            order, rules = mark_by_words(frame)
            wanted = reduced_plainly(order, rules, 25)
            if wanted is not None:
                done += 1
                self.assertEqual(saturation_rules(frame), wanted)
        self.assertGreater(done, 25)

    def test_both_ways_give_the_same(self):
        for _, frame in list(small_frames(4, 150, 6, 4, 3)) + [(0, frame) for frame in (
                TOTAL, COINS, SQUARE, BROAD, HIGH, cube_of(2, 2, 2), cube_of(3, 3, 1), linked(3), linked(5))]:
            self.assertEqual(rules_by_lending(frame), rules_by_sums(frame))

    def test_where_the_other_way_has_too_many_rules(self):
        self.too_many("rules", 200, elimination_rules, THREE_WAYS)
        told = rules_by_lending(THREE_WAYS)
        self.assertEqual([sum(ahead) for ahead, _ in told], [4, 4, 4])

    def test_more_than_200_rules(self):
        self.assertEqual(len(saturation_rules(AT_200)), 200)
        self.assertEqual(saturation_rules(AT_200), reduced(*mark_by_words(AT_200)))
        self.assertLess(len(rules_by_lending(AT_200)), 200)
        for frame in (AT_201, WIDER):
            for function in (saturation_rules, rules_by_lending):
                self.too_many("rules", 200, function, frame)
            self.too_many("rules", 200, reduced, *mark_by_words(frame))
        # The other way has its own bound.
        self.assertEqual(rules_by_sums(AT_200), rules_by_lending(AT_200))
        self.assertLess(len(elimination_rules(AT_201)), 200)

    def test_counts(self):
        self.assertEqual(max(max(ahead + behind) for ahead, behind in saturation_rules(linked(5))), 6561)
        self.assertEqual(max(max(ahead + behind) for ahead, behind in mark_rules(linked(6, (3, 1)))), 19683)
        self.assertEqual(rules_by_lending(linked(6, (3, 1))), rules_by_sums(linked(6, (3, 1))))
        for frame in (linked(6), linked(6, (4, 1))):
            for function in (mark_rules, saturation_rules, rules_by_lending):
                self.too_many("counts", 20000, function, frame)

    def test_mark_rules_have_their_own_bound(self):
        # The basis has numbers beyond 20,000, the reduced rules have not: then these are told.
        self.too_many("counts", 20000, mark_rules, FAR)
        self.assertEqual(len(saturation_rules(FAR)), 20)
        self.assertEqual(rules_by_lending(FAR), tuple((a[1:], b[1:]) for a, b in saturation_rules(FAR) if a[0] == 0))

    def test_errors(self):
        for function in LISTED.values():
            self.refuses(function, {"frame": COINS}, "frame", InvalidFrame, WRONG_FRAMES)

    def test_arguments_stay(self):
        for function in LISTED.values():
            self.assertIs(type(self.kept_and_new(function, STEPS)), tuple)
