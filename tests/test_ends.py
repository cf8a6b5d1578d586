"""Ends, paths, ends in some way [7], [53] to [56], held by rules done one by one."""

import random
import unittest

from sumroads.ends import end_of, ends_in_some_way, have_one_end, path_of
from sumroads.errors import InvalidMonomial, InvalidOrder, InvalidRules
from sumroads.reduced import reduced
from tests.helpers import Holds, Odd
from tests.ruling import complete_plainly, end_plainly, ends_plainly, goes, path_plainly, some_rules
from tests.test_orders import PLAIN, WRONG_ORDERS
from tests.test_rules import SPLIT, THREE, WRONG_RULE_LISTS

BOTH = (SPLIT, ((1, 1, 0), (0, 0, 2)))
DOWN = (((1, 0), (0, 1)),)
FALLING = (((0, 1), (0, 0)), ((1, 0), (0, 1)))
HEAVY = ("order", (1, 0))
WRONG = [(0, 0), (0, 0, 0, 0), [0, 0, 0], (0, 0, True), (0, -1, 0), (0, 20001, 0), None, Odd(), (), (0, Odd(), 0)]
LISTED = {"end_of": end_of, "path_of": path_of, "ends_in_some_way": ends_in_some_way}


class Ends(Holds, unittest.TestCase):
    def test_examples(self):
        self.assertEqual(
            [end_of(THREE, (SPLIT,), (0, 5, 0)), path_of(THREE, (SPLIT,), (0, 5, 0)),
             have_one_end(THREE, (SPLIT,), (0, 2, 0), (1, 0, 1))],
            [(2, 1, 2), [(0, 5, 0), (1, 3, 1), (2, 1, 2)], True])
        self.assertEqual(
            [end_of(THREE, BOTH, (1, 2, 0)), ends_in_some_way(THREE, BOTH, (1, 2, 0)),
             ends_in_some_way(THREE, (), (4, 0, 0))], [(2, 0, 1), [(0, 1, 2), (2, 0, 1)], [(4, 0, 0)]])

    def test_by_doing_rule_by_rule(self):
        unlike = 0
        for draw, order, rules in some_rules(1, 300, many=5):
            for _ in range(6):
                monomial = tuple(draw.randint(0, 4) for _ in range(3))
                path = path_plainly(rules, monomial)
                self.assertEqual(path_of(order, rules, monomial), path)
                self.assertEqual(end_of(order, rules, monomial), path[-1])
                other = tuple(draw.randint(0, 3) for _ in range(3))
                self.assertIs(have_one_end(order, rules, monomial, other), path[-1] == end_plainly(rules, other))
                self.assertIs(have_one_end(order, rules, monomial, path[-1]), True)
                ends = ends_in_some_way(order, rules, monomial)
                self.assertEqual(ends, ends_plainly(rules, monomial))
                self.assertIn(path[-1], ends)
                unlike += len(ends) > 1
        self.assertGreater(unlike, 100)

    def test_the_first_rule_in_sequence(self):
        rules = (((0, 2), (0, 1)), ((1, 0), (0, 1)), ((2, 0), (0, 0)))
        self.assertEqual(path_of(PLAIN, rules, (2, 0)), [(2, 0), (1, 1), (0, 2), (0, 1)])
        # What an earlier rule waits for comes up in the midst of many doings of a later one.
        rules = (((0, 3), (0, 0)), ((1, 0), (0, 1)))
        self.assertEqual(path_of(PLAIN, rules, (5, 0))[:5], [(5, 0), (4, 1), (3, 2), (2, 3), (2, 0)])
        self.assertEqual(end_of(PLAIN, rules, (5, 0)), (0, 2))
        self.assertEqual(end_of(PLAIN, rules, (20000, 1)), (0, 0))

    def test_complete_rules_have_one_end(self):
        for draw, order, rules in some_rules(2, 150):
            rules = reduced(order, rules)
            self.assertIs(complete_plainly(rules), True)
            for _ in range(5):
                monomial = tuple(draw.randint(0, 4) for _ in range(3))
                self.assertEqual(ends_in_some_way(order, rules, monomial), [end_plainly(rules, monomial)])

    def test_no_rules_and_no_rule_that_goes(self):
        for rules in ((), (SPLIT,)):
            for monomial in ((20000, 1, 20000), (0, 0, 0)):
                self.assertEqual(end_of(THREE, rules, monomial), monomial)
                self.assertEqual(path_of(THREE, rules, monomial), [monomial])
                self.assertEqual(ends_in_some_way(THREE, rules, monomial), [monomial])
        self.assertEqual(end_of(monomial=(4,), rules=(), order=("order", (0,))), (4,))
        self.assertEqual(path_of(monomial=(4,), rules=(((3,), (1,)),), order=("order", (0,))), [(4,), (2,)])
        self.assertIs(have_one_end(other=(1,), one=(0,), rules=(((1,), (0,)),), order=("order", (0,))), True)
        self.assertEqual(ends_in_some_way(monomial=(4,), rules=(), order=("order", (0,))), [(4,)])

    def test_2000_doings_and_more(self):
        self.assertEqual(path_of(PLAIN, DOWN, (2000, 0)), [(2000 - at, at) for at in range(2001)])
        self.too_many("steps", 2000, path_of, PLAIN, DOWN, (2001, 0))
        self.assertEqual(end_of(PLAIN, DOWN, (2001, 0)), (0, 2001))
        self.assertEqual(end_of(PLAIN, FALLING, (20000, 20000)), (0, 0))
        self.assertIs(have_one_end(PLAIN, FALLING, (20000, 20000), (0, 1)), True)
        # The next one isn't done, so no count comes of it.
        rules = (((0, 1), (0, 0)), ((1, 0), (0, 20000)))
        self.assertEqual(len(path_of(HEAVY, rules, (0, 2000))), 2001)
        rules = (((0, 1, 0), (0, 0, 0)), ((1, 0, 0), (0, 0, 20000)))
        self.too_many("steps", 2000, path_of, ("order", (1, 0, 0)), rules, (1, 2000, 1))
        self.too_many("counts", 20000, path_of, ("order", (1, 0, 0)), rules, (1, 1999, 1))

    def test_counts(self):
        up = (((1, 0), (0, 2)),)
        for told, many in (((10000, 0), 20000), ((9999, 1), 19999)):
            self.assertEqual(end_of(HEAVY, up, told), (0, many))
            self.assertIs(have_one_end(HEAVY, up, told, (0, many)), True)
        for told in ((10000, 1), (1, 19999), (20000, 0)):
            self.too_many("counts", 20000, end_of, HEAVY, up, told)
            self.too_many("counts", 20000, have_one_end, HEAVY, up, (0, 0), told)
            self.too_many("counts", 20000, have_one_end, HEAVY, up, told, (0, 0))
        self.too_many("counts", 20000, path_of, HEAVY, up, (1, 19999))
        self.too_many("counts", 20000, ends_in_some_way, HEAVY, up, (1, 19999))
        self.assertEqual(ends_in_some_way(HEAVY, up, (1, 19998)), [(0, 20000)])
        # What is met on the way counts, too, though it falls again.
        rules = (((0, 20000), (0, 0)), ((1, 0), (0, 15000)))
        self.assertEqual(end_of(HEAVY, rules, (1, 5000)), (0, 0))
        self.too_many("counts", 20000, end_of, HEAVY, rules, (1, 5001))

    def test_2000_monomials_and_more(self):
        self.assertEqual(ends_in_some_way(PLAIN, DOWN, (1999, 0)), [(0, 1999)])
        self.too_many("monomials", 2000, ends_in_some_way, PLAIN, DOWN, (2000, 0))
        # 2,000 = 40 x 50 of two counts that fall apart.
        apart = (((0, 1), (0, 0)), ((1, 0), (0, 0)))
        self.assertEqual(ends_in_some_way(PLAIN, apart, (39, 49)), [(0, 0)])
        self.too_many("monomials", 2000, ends_in_some_way, PLAIN, apart, (39, 50))

    def test_many_doings_take_no_time(self):
        chain = ("order", tuple(range(39, -1, -1)))
        rules = []
        for at in range(39):
            ahead, behind = [0] * 40, [0] * 40
            ahead[at] = behind[at + 1] = 1
            rules.append((tuple(ahead), tuple(behind)))
        rules = tuple(sorted(rules))
        self.assertEqual(end_of(chain, rules, (20000,) + (0,) * 39), (0,) * 39 + (20000,))

    def test_errors(self):
        for function in LISTED.values():
            good = {"order": THREE, "rules": (SPLIT,), "monomial": (0, 1, 0)}
            self.refuses(function, good, "order", InvalidOrder, WRONG_ORDERS)
            self.refuses(function, good, "rules", InvalidRules, WRONG_RULE_LISTS + [BOTH[::-1], list(BOTH)])
            self.refuses(function, good, "monomial", InvalidMonomial, WRONG)
            self.first_refused(function, good, [
                ("order", None, InvalidOrder), ("rules", [SPLIT], InvalidRules), ("monomial", None, InvalidMonomial)])
        good = {"order": THREE, "rules": (SPLIT,), "one": (0, 1, 0), "other": (0, 0, 0)}
        self.refuses(have_one_end, good, "order", InvalidOrder, WRONG_ORDERS)
        self.refuses(have_one_end, good, "rules", InvalidRules, WRONG_RULE_LISTS)
        self.refuses(have_one_end, good, "one", InvalidMonomial, WRONG)
        self.refuses(have_one_end, good, "other", InvalidMonomial, WRONG)
        self.first_refused(have_one_end, good, [
            ("order", None, InvalidOrder), ("rules", None, InvalidRules), ("one", (0,), InvalidMonomial),
            ("other", None, InvalidMonomial)])

    def test_rules_of_another_order_are_none(self):
        good = {"order": ("order", (0, 0, 1)), "rules": (), "monomial": (0, 0, 0)}
        for function in LISTED.values():
            self.refuses(function, good, "rules", InvalidRules, [(SPLIT,)])
            self.assertIn(function(("order", (0, 0, 1)), (SPLIT[::-1],), (1, 0, 1)),
                          [(0, 2, 0), [(0, 2, 0)], [(1, 0, 1), (0, 2, 0)]])

    def test_a_wrong_value_comes_ahead_of_too_many(self):
        good = {"order": HEAVY, "rules": (((1, 0), (0, 2)),), "one": (20000, 0), "other": (0, 0)}
        self.refuses(have_one_end, good, "other", InvalidMonomial, [(0, True), None])

    def test_arguments_stay_and_lists_are_new(self):
        self.assertIs(type(self.kept_and_new(path_of, THREE, BOTH, (1, 2, 0))), list)
        self.assertIs(type(self.kept_and_new(ends_in_some_way, THREE, BOTH, (1, 2, 0))), list)
        self.kept_and_new(end_of, THREE, BOTH, (1, 2, 0))
        draw = random.Random(3)
        for _ in range(20):
            monomial = tuple(draw.randint(0, 3) for _ in range(3))
            self.assertFalse(any(goes(rule, end_of(THREE, BOTH, monomial)) for rule in BOTH))
