"""Rules [7], [52], [56]: which values are some, those of moves and books, what they lead to."""

import itertools
import random
import unittest

from sumroads.errors import (
    InvalidBook, InvalidMonomial, InvalidMove, InvalidOrder, InvalidRule, InvalidRules, NotGoing, StateError)
from sumroads.overlaps import is_complete
from sumroads.rules import goes_by, is_rule, is_rules, led_once, rule_of, rule_of_move, rules_of_book
from tests.helpers import Holds, Odd, odd_values
from tests.ruling import does, goes, random_rules, rule_plainly
from tests.test_orders import LAST, PLAIN, WRONG_MONOMIALS, WRONG_ORDERS

THREE = ("order", (0, 0, 0))
SPLIT = ((0, 2, 0), (1, 0, 1))
WRONG_RULES_ALONE = [
    (SPLIT[0], SPLIT[0]), list(SPLIT), SPLIT[:1], SPLIT + SPLIT[:1],
    ([0, 2, 0], (1, 0, 1)), ((0, 2, 0), [1, 0, 1]), ((0, True, 0), (0, 0, 0)), ((0, 2, 0), (False, 0, 1)),
    ((0, 20001, 0), (0, 0, 0)), ((0, 2, -1), (0, 0, 0)), (Odd(), (0, 0, 0)), ((0, 2, 0), Odd()), ((0, Odd(), 0), (0, 0, 0)),
    None, 1, "ab", Odd(), (), ((0, 2, 0), None), ((), ())]
WRONG_RULES = WRONG_RULES_ALONE + [SPLIT[::-1], ((0, 2), (1, 0)), ((0, 2, 0, 0), (0, 0, 0, 0))]
WRONG_RULE_LISTS = [
    [SPLIT], SPLIT, (SPLIT, SPLIT), (SPLIT[::-1],), (SPLIT, ((0, 1, 0), (0, 0, 0))), None, 0, True, "", {}, {SPLIT}, Odd(),
    (Odd(),), (None,), (SPLIT, None), ((),), (((1, 0), (0, 0)),)]
LONE_WRONG_MOVES = [
    (0, 0, 0), (-1, 2, 0), (0, -1, 1), (100, 0, 0), (1, -100, 0), (1, 0), (1, 0, 0, 0), [1, -2, 1], (True, -2, 1), (1, -2, True),
    (), None, 1, "abc", Odd(), (Odd(), 0, 0), (1, None, 0)]


def many_rules(many):
    """So many rules of two letters, rising."""
    return tuple(sorted(((at + 1, 0), (at, 0)) for at in range(many)))


class Rules(Holds, unittest.TestCase):
    def test_examples(self):
        split = rule_of(THREE, (1, 0, 1), (0, 2, 0))
        self.assertEqual(
            [split, rule_of(THREE, (1, 0, 0), (1, 0, 0)), rule_of_move(THREE, (1, -2, 1)) == split,
             rules_of_book(THREE, ((1, -2, 1),)) == (split,), is_rule(THREE, split[::-1]), is_rules(THREE, (split, split))],
            [((0, 2, 0), (1, 0, 1)), None, True, True, False, False])
        self.assertEqual(
            [goes_by(split, (1, 3, 0)), goes_by(split, (9, 1, 9)), led_once(split, (1, 3, 0))], [True, False, (2, 1, 1)])

    def test_the_other_order_leads_the_other_way(self):
        self.assertEqual(rule_of(("order", (1, 0, 0)), (1, 0, 1), (0, 2, 0)), SPLIT[::-1])
        self.assertEqual(rule_of_move(("order", (0, 0, 1)), (1, -2, 1)), SPLIT[::-1])
        self.assertIs(is_rule(("order", (0, 1, 0)), SPLIT), True)
        self.assertIs(is_rule(("order", (0, 0, 1)), SPLIT), False)
        self.assertIs(is_rules(("order", (0, 0, 1)), (SPLIT,)), False)

    def test_is_rule(self):
        self.asks(is_rule, THREE, right=[SPLIT, ((0, 20000, 0), (0, 0, 0)), ((1, 0, 0), (0, 1, 0))], wrong=WRONG_RULES)
        self.asks(is_rule, THREE, wrong=odd_values())
        self.asks(is_rule, ("order", (0,)), right=[((1,), (0,))], wrong=[((0,), (1,)), ((0,), (0,)), (1, 0)])
        self.asks(is_rule, ("order", tuple([0] * 40)), right=[(tuple([1] * 40), tuple([0] * 40))])
        self.assertIs(is_rule(value=SPLIT, order=THREE), True)
        draw = random.Random(1)
        for _ in range(300):
            order, rules = random_rules(draw, letters=draw.randint(1, 4), size=3)
            for rule in rules:
                self.assertIs(is_rule(order, rule), True)
                self.assertIs(is_rule(order, rule[::-1]), False)

    def test_is_rules(self):
        two = (SPLIT, ((1, 1, 0), (0, 0, 2)))
        self.asks(is_rules, THREE, right=[(), (SPLIT,), two], wrong=WRONG_RULE_LISTS + [two[::-1], list(two), two + two[1:]])
        self.asks(is_rules, THREE, wrong=[(rule,) for rule in WRONG_RULES] + [
            value for value in odd_values() if not (isinstance(value, tuple) and len(value) == 0)])
        self.asks(is_rules, PLAIN, right=[many_rules(200)], wrong=[many_rules(201)])
        self.assertIs(is_rules(value=(), order=PLAIN), True)

    def test_rule_of(self):
        draw = random.Random(2)
        for _ in range(400):
            many = draw.randint(1, 4)
            order = ("order", tuple(draw.choice([0, 0, 1, 7]) for _ in range(many)))
            one, other = (tuple(draw.randint(0, 2) for _ in range(many)) for _ in range(2))
            wanted = None if one == other else rule_plainly(order, one, other)
            self.assertEqual(rule_of(order, one, other), wanted)
            self.assertEqual(rule_of(order, other, one), wanted)
        self.assertEqual(rule_of(other=(0, 1), one=(20000, 0), order=PLAIN), ((20000, 0), (0, 1)))

    def test_rule_of_move(self):
        draw = random.Random(3)
        for _ in range(300):
            many = draw.randint(1, 4)
            order = ("order", tuple(draw.choice([0, 0, 1, 7]) for _ in range(many)))
            move = tuple(draw.randint(-2, 2) for _ in range(many))
            if move <= tuple([0] * many):
                continue
            ends = tuple(max(a, 0) for a in move), tuple(max(-a, 0) for a in move)
            self.assertEqual(rule_of_move(order, move), rule_plainly(order, *ends))
        self.assertEqual(rule_of_move(LAST, (2, 3)), ((2, 3), (0, 0)))
        self.assertEqual(rule_of_move(move=(99, -99), order=LAST), ((0, 99), (99, 0)))

    def test_rules_of_book(self):
        book = tuple((1, -at) for at in range(60, 0, -1))
        told = rules_of_book(PLAIN, book)
        self.assertEqual(told, tuple(sorted(rule_of_move(PLAIN, move) for move in book)))
        self.assertIs(is_rules(PLAIN, told), True)
        self.assertEqual(rules_of_book(book=(), order=PLAIN), ())
        self.assertEqual(rules_of_book(THREE, ((0, 1, 0), (1, 0, 0))), (((0, 1, 0), (0, 0, 0)), ((1, 0, 0), (0, 0, 0))))

    def test_goes_by_and_led_once_by_the_words(self):
        for one, other in itertools.permutations(itertools.product(range(3), repeat=2), 2):
            for monomial in itertools.product(range(3), repeat=2):
                self.assertIs(goes_by((one, other), monomial), goes((one, other), monomial))
                if goes((one, other), monomial):
                    self.assertEqual(led_once((one, other), monomial), does((one, other), monomial))
                else:
                    self.assertIs(type(self.error_of(led_once, {1: (one, other), 2: monomial})), NotGoing)
        self.assertIs(goes_by(monomial=(1,), rule=((0,), (1,))), True)
        self.assertEqual(led_once(monomial=tuple([1] * 40), rule=(tuple([1] * 40), tuple([0] * 40))), tuple([0] * 40))

    def test_counts(self):
        up = ((1, 0), (0, 20000))
        self.assertEqual(led_once(up, (5, 0)), (4, 20000))
        self.too_many("counts", 20000, led_once, up, (5, 1))
        self.assertEqual(led_once(((0, 1), (1, 0)), (19999, 20000)), (20000, 19999))
        self.too_many("counts", 20000, led_once, ((0, 1), (1, 0)), (20000, 1))
        self.assertIs(goes_by(up, (5, 1)), True)
        # What does not go is told ahead of counts.
        caught = self.error_of(led_once, {1: up, 2: (0, 20000)})
        self.assertIs(type(caught), NotGoing)
        self.assertIsInstance(caught, StateError)

    def test_errors(self):
        good = {"order": THREE, "one": (0, 0, 1), "other": (1, 0, 0)}
        wrong = [(0, 0), (0, 0, 0, 0), [0, 0, 0], (0, 0, True), (0, -1, 0), (0, 20001, 0), None, Odd(), ()]
        self.refuses(rule_of, good, "order", InvalidOrder, WRONG_ORDERS)
        self.refuses(rule_of, good, "one", InvalidMonomial, wrong)
        self.refuses(rule_of, good, "other", InvalidMonomial, wrong)
        self.first_refused(rule_of, good, [
            ("order", None, InvalidOrder), ("one", (0,), InvalidMonomial), ("other", None, InvalidMonomial)])
        for function in (is_rule, is_rules):
            self.refuses(function, {"order": THREE, "value": ()}, "order", InvalidOrder, WRONG_ORDERS)
        good = {"order": THREE, "move": (1, -2, 1)}
        self.refuses(rule_of_move, good, "order", InvalidOrder, WRONG_ORDERS)
        self.refuses(rule_of_move, good, "move", InvalidMove, LONE_WRONG_MOVES)
        self.first_refused(rule_of_move, good, [("order", None, InvalidOrder), ("move", None, InvalidMove)])
        good = {"order": THREE, "book": ((1, -2, 1),)}
        self.refuses(rules_of_book, good, "order", InvalidOrder, WRONG_ORDERS)
        self.refuses(rules_of_book, good, "book", InvalidBook, [(move,) for move in LONE_WRONG_MOVES] + [
            [(1, -2, 1)], ((1, 0, 0), (0, 1, 0)), ((1, 0, 0), (1, 0, 0)), None, 1, "", {}, Odd(), (1, -2, 1),
            tuple((1, at, 0) for at in range(61))])
        self.first_refused(rules_of_book, good, [("order", None, InvalidOrder), ("book", None, InvalidBook)])

    def test_errors_of_rules_alone(self):
        wrong = WRONG_RULES_ALONE + [((0,), (0, 1)), (tuple([1] * 41), tuple([0] * 41)), ((0, 0), (0, 0)), (1, 2)]
        good = {"rule": ((1, 0), (0, 1)), "monomial": (1, 0)}
        for function in (goes_by, led_once):
            self.refuses(function, good, "rule", InvalidRule, wrong)
            self.refuses(function, good, "monomial", InvalidMonomial, WRONG_MONOMIALS)
            self.first_refused(function, good, [("rule", None, InvalidRule), ("monomial", None, InvalidMonomial)])

    def test_arguments_stay_and_tuples_are_told(self):
        for function, told in (
                (rule_of, (THREE, (1, 0, 1), (0, 2, 0))), (rule_of_move, (THREE, (1, -2, 1))),
                (rules_of_book, (THREE, ((1, -2, 1),))), (led_once, (SPLIT, (1, 3, 0)))):
            self.assertIs(type(self.kept_and_new(function, *told)), tuple)
        self.assertIs(is_complete(THREE, rules_of_book(THREE, ((1, -2, 1),))), True)
        self.assertIs(type(self.error_of(is_complete, {1: THREE, 2: (SPLIT, SPLIT)})), InvalidRules)
