"""Overlaps and complete rules [7], [54], [55], [61]."""

import unittest

from sumroads.errors import InvalidOrder, InvalidRules
from sumroads.overlaps import is_complete, overlaps
from tests.helpers import Holds
from tests.ruling import complete_plainly, ends_plainly, overlaps_plainly, some_rules
from tests.test_orders import PLAIN, WRONG_ORDERS
from tests.test_rules import SPLIT, THREE, WRONG_RULE_LISTS, many_rules

FLAT_RULES = (((1, 1), (0, 0)), ((2, 0), (0, 1)))
FOUR = ("order", (9, 0, 0, 0))
TALL = (((0, 1, 5, 0), (0, 0, 0, 1)), ((1, 1, 0, 0), (0, 0, 20000, 0)))
NOUGHT = tuple((tuple(int(at == letter) for at in range(4)), (0, 0, 0, 0)) for letter in range(4))


class Overlaps(Holds, unittest.TestCase):
    def test_examples(self):
        self.assertEqual(
            [overlaps(PLAIN, FLAT_RULES), is_complete(PLAIN, FLAT_RULES), is_complete(PLAIN, FLAT_RULES[:1])],
            [[(0, 1, (2, 1), (1, 0), (0, 2))], False, True])

    def test_by_the_words(self):
        complete, many = 0, 0
        for draw, order, rules in some_rules(1, 500, many=4):
            told = overlaps(order, rules)
            self.assertIs(type(told), list)
            self.assertEqual(told, overlaps_plainly(rules))
            self.assertEqual(told, sorted(told))
            self.assertIs(is_complete(order, rules), complete_plainly(rules))
            complete += is_complete(order, rules)
            many += len(told)
        self.assertGreater(complete, 100)
        self.assertGreater(500 - complete, 100)
        self.assertGreater(many, 500)

    def test_unlike_ends_in_every_way_give_two_ends(self):
        # [54]: complete rules have one end in any way, others two somewhere.
        for draw, order, rules in some_rules(2, 200):
            worst = max([len(ends_plainly(rules, monomial)) for _, _, monomial, _, _ in overlaps_plainly(rules)], default=1)
            if is_complete(order, rules):
                self.assertEqual(worst, 1)
            else:
                self.assertGreater(worst, 1)

    def test_no_overlaps(self):
        self.assertEqual(overlaps(PLAIN, ()), [])
        self.assertIs(is_complete(PLAIN, ()), True)
        self.assertEqual(overlaps(rules=(SPLIT,), order=THREE), [])
        self.assertIs(is_complete(rules=(SPLIT,), order=THREE), True)
        # Behinds share letters, aheads don't.
        apart = (((0, 2, 0), (0, 0, 1)), ((2, 0, 0), (0, 0, 1)))
        self.assertEqual(overlaps(THREE, apart), [])
        self.assertIs(is_complete(THREE, apart), True)

    def test_200_rules(self):
        rules = many_rules(200)
        self.assertEqual(len(overlaps(PLAIN, rules)), 199 * 100)
        self.assertIs(is_complete(PLAIN, rules), True)
        self.assertIs(is_complete(PLAIN, rules[1:] + (((201, 0), (200, 0)),)), True)
        self.assertIs(is_complete(PLAIN, (((2, 0), (1, 0)), ((3, 0), (0, 0)))), False)

    def test_counts(self):
        self.too_many("counts", 20000, overlaps, FOUR, TALL)
        self.assertIs(is_complete(FOUR, TALL), False)
        low = (TALL[0], ((1, 1, 0, 0), (0, 0, 19995, 0)))
        self.assertEqual(overlaps(FOUR, low), [(0, 1, (1, 1, 5, 0), (1, 0, 0, 1), (0, 0, 20000, 0))])
        high = (TALL[0], ((1, 1, 0, 0), (0, 0, 19996, 0)))
        self.too_many("counts", 20000, overlaps, FOUR, high)
        # The result by the one rule, too.
        pair = ("order", (9, 9, 0))
        for many in (19999, 20000):
            rules = (((0, 1, 0), (0, 0, many)), ((1, 1, 0), (0, 0, 0)))
            self.assertEqual(overlaps(pair, rules), [(0, 1, (1, 1, 0), (1, 0, many), (0, 0, 0))])
            rules = (((0, 1, 0), (0, 0, many)), ((0, 2, 1), (0, 0, 0)))
            if many == 19999:
                self.assertEqual(overlaps(pair, rules), [(0, 1, (0, 2, 1), (0, 1, 20000), (0, 0, 0))])
            else:
                self.too_many("counts", 20000, overlaps, pair, rules)
        # Whether it is so is told whatever the counts are.
        self.assertIs(is_complete(FOUR, tuple(sorted(TALL + NOUGHT))), True)
        self.assertIs(is_complete(FOUR, tuple(sorted(TALL + NOUGHT[1:]))), False)

    def test_ends_beyond_the_counts(self):
        # Overlapping results that go far beyond 20,000 before they meet.
        rules = tuple(sorted([
            ((0, 0, 1, 0), (0, 0, 0, 20000)), ((0, 1, 0, 0), (0, 0, 20, 0)), ((1, 0, 0, 0), (0, 1, 0, 0)),
            ((1, 1, 0, 0), (0, 2, 0, 0))]))
        order = ("order", (99, 99, 1, 0))
        self.assertIs(is_complete(order, rules), True)
        rules = tuple(sorted(rules[:3] + (((1, 1, 0, 0), (0, 1, 0, 0)),)))
        self.assertIs(is_complete(order, rules), False)

    def test_errors(self):
        good = {"order": THREE, "rules": (SPLIT,)}
        for function in (overlaps, is_complete):
            self.refuses(function, good, "order", InvalidOrder, WRONG_ORDERS)
            self.refuses(function, good, "rules", InvalidRules, WRONG_RULE_LISTS)
            self.first_refused(function, good, [("order", None, InvalidOrder), ("rules", None, InvalidRules)])
            self.refuses(function, {"order": PLAIN, "rules": ()}, "rules", InvalidRules, [many_rules(201)])

    def test_arguments_stay_and_lists_are_new(self):
        self.kept_and_new(overlaps, PLAIN, FLAT_RULES)
        self.kept_and_new(overlaps, PLAIN, ())
