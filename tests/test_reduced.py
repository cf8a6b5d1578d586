"""Completion and reduced rules [61] to [65]; what is led alike, tables joined by ends."""

import itertools
import random
import unittest

from sumroads.closedlots import closed_lot
from sumroads.completion import completed
from sumroads.ends import have_one_end
from sumroads.errors import InvalidBook, InvalidFrame, InvalidMonomial, InvalidOrder, InvalidRules, InvalidTable
from sumroads.kernels import basis
from sumroads.overlaps import is_complete
from sumroads.reduced import is_reduced, joined_by_ends, leads_alike, reduced, reduced_book
from sumroads.rules import is_rules, rules_of_book
from tests.helpers import BROAD, COINS, Holds, SQUARE, TOTAL, WRONG_FRAMES, sums_plainly
from tests.ruling import (
    alike_plainly, end_plainly, overlaps_plainly, reduced_plainly, rule_plainly, some_rules)
from tests.test_ends import HEAVY, WRONG
from tests.test_lots import WRONG_TABLES
from tests.test_moves import unit_moves
from tests.test_orders import PLAIN, WRONG_ORDERS
from tests.test_overlaps import FLAT_RULES
from tests.test_roads import WRONG_BOOKS
from tests.test_rules import SPLIT, THREE, WRONG_RULE_LISTS, many_rules
from tests.walking import distances_plainly, random_books

STEPS, EVEN = ("frame", ((1, 1, 1), (0, 1, 2))), ("order", (0, 0, 0))
FALL = ("order", (99, 4, 1, 0))


def sinking(degree):
    """Rules whose reduced ones are degree + 4: all of this degree in two letters, and more, sink to the third."""
    rules = [((at, degree - at, 0), (0, 0, 1)) for at in range(degree + 1)]
    return tuple(sorted(rules + [((1, 0, 1), (0, 0, 1)), ((0, 0, 2), (0, 0, 1))]))


def falling(last):
    """Rules of four letters: the first one is led to 72 times so many of the last one."""
    return tuple(sorted([
        ((1, 0, 0, 0), (0, 24, 0, 0)), ((0, 1, 0, 0), (0, 0, 3, 0)), ((0, 0, 1, 0), (0, 0, 0, last))]))


def line(many):
    """Letters s, t and x_0, x_1 ..: a rule from s and t taken k times to x_k."""
    letters = many + 2
    rules = []
    for at in range(many):
        ahead, behind = [0] * letters, [0] * letters
        ahead[0], ahead[1], behind[2 + at] = 1, at, 1
        rules.append((tuple(ahead), tuple(behind)))
    return ("order", (1, 1) + (0,) * many), tuple(sorted(rules))


class Reduced(Holds, unittest.TestCase):
    def test_examples(self):
        self.assertIs(is_complete(PLAIN, completed(PLAIN, FLAT_RULES)), True)
        self.assertEqual(
            [reduced(PLAIN, FLAT_RULES), is_reduced(PLAIN, FLAT_RULES), leads_alike(PLAIN, FLAT_RULES, (3, 0), (0, 0)),
             leads_alike(PLAIN, FLAT_RULES, (1, 0), (0, 0))],
            [(((0, 2), (1, 0)), ((1, 1), (0, 0)), ((2, 0), (0, 1))), False, True, False])
        self.assertEqual(
            [reduced_book(STEPS, EVEN, ((1, -2, 1),)), joined_by_ends(STEPS, EVEN, ((1, -2, 1),), (2, 0, 2), (0, 4, 0)),
             joined_by_ends(STEPS, EVEN, (), (1, 0, 1), (0, 2, 0))], [(((0, 2, 0), (1, 0, 1)),), True, False])

    def test_by_plain_completion(self):
        for _, order, rules in some_rules(1, 300, many=5):
            wanted = reduced_plainly(order, rules)
            told = reduced(order, rules)
            self.assertEqual(told, wanted)
            self.assertIs(is_rules(order, told), True)
            self.assertIs(is_reduced(order, told), True)
            self.assertIs(is_reduced(order, rules), rules == wanted)
            made = completed(order, rules)
            self.assertIs(is_rules(order, made), True)
            self.assertIs(is_complete(order, made), True)
            self.assertEqual(reduced_plainly(order, made), wanted)

    def test_other_sizes(self):
        for letters, many, size in ((1, 4, 6), (2, 4, 3), (4, 4, 1), (5, 5, 1)):
            for _, order, rules in some_rules(letters, 60, letters=letters, many=many, size=size):
                self.assertEqual(reduced(order, rules), reduced_plainly(order, rules))

    def test_just_one_whatever_they_come_of(self):
        for draw, order, rules in some_rules(3, 120, many=4):
            wanted = reduced(order, rules)
            self.assertEqual(reduced(order, wanted), wanted)
            more = set(rules) | set(draw.sample(wanted, draw.randint(0, len(wanted))))
            for rule in rules:
                beside = tuple(draw.randint(0, 1) for _ in range(3))
                more.add(tuple(tuple(a + b for a, b in zip(side, beside)) for side in rule))
            for _, _, _, one, other in overlaps_plainly(rules):
                if one != other and draw.random() < 0.5:
                    more.add(rule_plainly(order, one, other))
            self.assertEqual(reduced(order, tuple(sorted(more))), wanted)
            self.assertIs(is_reduced(order, tuple(sorted(more))), tuple(sorted(more)) == wanted)

    def test_is_reduced(self):
        good = (((0, 2), (1, 0)), ((1, 1), (0, 0)), ((2, 0), (0, 1)))
        self.assertIs(is_reduced(PLAIN, good), True)
        # Complete, but a rule goes by another one's ahead, or by a behind.
        self.assertIs(is_reduced(PLAIN, (((0, 1), (0, 0)), ((0, 2), (0, 0)))), False)
        self.assertIs(is_complete(PLAIN, (((0, 1), (0, 0)), ((0, 2), (0, 0)))), True)
        self.assertIs(is_reduced(PLAIN, (((0, 1), (0, 0)), ((1, 0), (0, 1)))), False)
        self.assertIs(is_reduced(PLAIN, good[:2]), False)
        self.assertIs(is_reduced(PLAIN, ()), True)
        self.assertIs(is_reduced(rules=(SPLIT,), order=THREE), True)

    def test_leads_alike(self):
        yes = no = 0
        for draw, order, rules in some_rules(4, 150):
            whole = reduced_plainly(order, rules)
            one = tuple(draw.randint(0, 2) for _ in range(3))
            near = alike_plainly(rules, one, 5)
            for other in draw.sample(sorted(near), min(4, len(near))):
                self.assertIs(leads_alike(order, rules, one, other), True)
                self.assertIs(leads_alike(order, rules, other, one), True)
                yes += 1
            for _ in range(4):
                other = tuple(draw.randint(0, 3) for _ in range(3))
                wanted = end_plainly(whole, one) == end_plainly(whole, other)
                self.assertIs(leads_alike(order, rules, one, other), wanted)
                no += not wanted
        self.assertGreater(yes, 300)
        self.assertGreater(no, 100)
        self.assertIs(leads_alike(other=(1, 0), one=(1, 0), rules=(), order=PLAIN), True)

    def test_completed_leads_the_same_alike(self):
        for draw, order, rules in some_rules(5, 100):
            made = completed(order, rules)
            one = tuple(draw.randint(0, 2) for _ in range(3))
            for other in sorted(alike_plainly(rules, one, 4))[:5]:
                self.assertIs(have_one_end(order, made, one, other), True)
            for ahead, behind in made:
                self.assertIs(leads_alike(order, rules, ahead, behind), True)

    def test_200_rules_and_more(self):
        self.assertEqual(len(sinking(196)), 199)
        self.assertEqual(len(reduced(THREE, sinking(196))), 200)
        self.assertEqual(len(sinking(197)), 200)
        for function in (reduced, completed):
            self.too_many("rules", 200, function, THREE, sinking(197))
            self.assertIs(is_complete(THREE, function(THREE, sinking(196))), True)
        self.assertEqual(reduced(PLAIN, many_rules(200)), (((1, 0), (0, 0)),))
        # What tells whether something is so has no bound.
        self.assertIs(is_reduced(THREE, sinking(197)), False)
        self.assertIs(leads_alike(THREE, sinking(197), (0, 1, 1), (0, 0, 1)), True)
        self.assertIs(leads_alike(THREE, sinking(197), (0, 100, 0), (100, 0, 0)), False)

    def test_counts(self):
        self.assertEqual(reduced(FALL, falling(277))[-1], ((1, 0, 0, 0), (0, 0, 0, 72 * 277)))
        self.assertIs(is_complete(FALL, completed(FALL, falling(277))), True)
        for function in (reduced, completed):
            self.too_many("counts", 20000, function, FALL, falling(278))
        self.assertIs(is_reduced(FALL, falling(278)), False)
        self.assertIs(leads_alike(FALL, falling(278), (1, 0, 0, 0), (0, 1, 0, 0)), False)
        self.assertIs(leads_alike(FALL, falling(278), (1, 0, 0, 0), (0, 0, 71, 278)), True)

    def test_counts_of_just_20000(self):
        for rules in ((((20000, 0), (0, 0)),), (((1, 0), (0, 20000)),), (((20000, 1), (0, 20000)),)):
            self.assertEqual(reduced(HEAVY, rules), rules)
            self.assertEqual(completed(HEAVY, rules), rules)
        # The ahead that is found is beyond, no behind is.
        rules = (((1, 0, 0), (0, 20000, 0)), ((1, 0, 1), (0, 0, 0)))
        found = (((0, 20000, 1), (0, 0, 0)), ((1, 0, 0), (0, 20000, 0)))
        self.assertEqual(reduced(("order", (99, 0, 0)), rules), found)
        rules = (((1, 0, 0), (0, 20000, 0)), ((1, 1, 1), (0, 0, 0)))
        self.too_many("counts", 20000, reduced, ("order", (99, 0, 0)), rules)

    def test_what_comes_on_the_way_is_free(self):
        # Without the last letter's own rule the first one would be led far beyond 20,000.
        rules = tuple(sorted(falling(20000) + (((0, 0, 0, 3), (0, 0, 0, 1)),)))
        wanted = (((0, 0, 0, 3), (0, 0, 0, 1)), ((0, 0, 1, 0), (0, 0, 0, 2)), ((0, 1, 0, 0), (0, 0, 0, 2)),
                  ((1, 0, 0, 0), (0, 0, 0, 2)))
        self.assertEqual(reduced(FALL, rules), wanted)
        # More than 200 rules that fall into one, as the third letter is nought at last.
        rules = tuple(sorted(set(sinking(195)) | {((0, 1, 0), (0, 0, 0))}))
        self.assertEqual(reduced(THREE, rules), (((0, 0, 1), (0, 0, 0)), ((0, 1, 0), (0, 0, 0)), ((1, 0, 0), (0, 0, 0))))

    def test_rules_come_ahead_of_counts(self):
        order, rules = line(24)
        self.too_many("rules", 200, reduced, order, rules)
        both = ("order", order[1] + FALL[1])
        tall = [((0,) * 26 + one, (0,) * 26 + other) for one, other in falling(278)]
        wide = [(one + (0,) * 4, other + (0,) * 4) for one, other in rules]
        self.too_many("rules", 200, reduced, both, tuple(sorted(tall + wide)))
        self.too_many("counts", 20000, reduced, both, tuple(sorted(tall + wide[:3])))

    def test_reduced_book(self):
        for frame, book, table, _ in random_books(1, 120):
            for weights in (tuple([0] * len(table)), tuple(range(len(table)))):
                order = ("order", weights)
                told = reduced_book(frame, order, book)
                self.assertEqual(told, reduced(order, rules_of_book(order, book)))
                self.assertIs(is_reduced(order, told), True)
        self.assertEqual(reduced_book(book=(), order=("order", (0, 0, 0, 0)), frame=SQUARE), ())
        # Two books that join the same tables.
        moves = unit_moves(3)
        self.assertEqual(reduced_book(TOTAL, EVEN, tuple(sorted(moves))), reduced_book(TOTAL, EVEN, tuple(sorted(moves[1:]))))
        self.assertNotEqual(reduced_book(TOTAL, EVEN, tuple(sorted(moves))), reduced_book(TOTAL, EVEN, tuple(moves[1:2])))

    def test_reduced_book_beyond(self):
        frame = ("frame", (tuple([1] * 16), tuple(range(8)) + tuple(range(8))))
        moves = []
        for one, other in itertools.combinations(range(8), 2):
            move = [0] * 16
            move[one], move[other], move[8 + one], move[8 + other] = 1, -1, -1, 1
            moves.append(tuple(move))
        order = ("order", tuple([0] * 16))
        book = tuple(sorted(moves))
        told = reduced_book(frame, order, book)
        self.assertEqual(told, reduced(order, rules_of_book(order, book)))
        # Seven moves that have more than 200 reduced rules.
        frame = ("frame", ((4, 9, 4, 3, 4, 7, 5, 1, 6), (6, 2, 2, 4, 1, 5, 4, 9, 9)))
        moves = tuple(sorted(basis(frame)))
        order = ("order", (50, 99, 99, 2, 0, 2, 2, 2, 5))
        self.too_many("rules", 200, reduced_book, frame, order, moves)
        self.assertLess(len(reduced_book(frame, order, moves[:3])), 200)
        self.assertIs(joined_by_ends(frame, order, moves, (0,) * 8 + (41,), (0,) * 6 + (45, 21, 0)), True)
        self.assertIs(joined_by_ends(frame, order, moves, (0,) * 8 + (40,), (0,) * 8 + (40,)), True)
        self.assertIs(joined_by_ends(frame, order, moves[1:], (0,) * 8 + (41,), (0,) * 6 + (45, 21, 0)), False)

    def test_joined_by_ends(self):
        yes = no = 0
        for frame, book, table, tables in random_books(2, 120):
            near = distances_plainly(book, table)
            for weights in (tuple([0] * len(table)), tuple(range(len(table)))):
                for other in tables[:8] + [table]:
                    told = joined_by_ends(frame, ("order", weights), book, table, other)
                    self.assertIs(told, other in near)
                    yes += told
                    no += not told
        self.assertGreater(yes, 300)
        self.assertGreater(no, 300)

    def test_joined_by_ends_where_lots_are_great(self):
        order = ("order", tuple([0] * 16))
        book = tuple(sorted(unit_moves(16)[:60]))
        self.assertIs(joined_by_ends(BROAD, order, book, tuple([1250] * 16), (20000,) + (0,) * 15), True)
        book = tuple(sorted(move for move in unit_moves(16) if move[15] == 0 and move[:3].count(0) != 1))[:60]
        self.assertIs(joined_by_ends(BROAD, order, book, (1,) + (0,) * 15, (0,) * 15 + (1,)), False)
        self.too_many("tables", 2000, closed_lot, BROAD, book, tuple([1250] * 16))
        self.assertIs(joined_by_ends(COINS, EVEN, ((2, -4, 2),), (1, 998, 1), (499, 2, 499)), True)
        self.assertIs(joined_by_ends(COINS, EVEN, ((2, -4, 2),), (1, 998, 1), (500, 0, 500)), False)
        self.assertIs(joined_by_ends(other=(0, 0, 1), table=(1, 0, 0), book=(), order=EVEN, frame=COINS), False)

    def test_errors(self):
        good = {"order": THREE, "rules": (SPLIT,)}
        for function in (reduced, is_reduced, completed):
            self.refuses(function, good, "order", InvalidOrder, WRONG_ORDERS)
            self.refuses(function, good, "rules", InvalidRules, WRONG_RULE_LISTS)
            self.first_refused(function, good, [("order", None, InvalidOrder), ("rules", None, InvalidRules)])
        good = {"order": THREE, "rules": (SPLIT,), "one": (0, 0, 0), "other": (0, 0, 1)}
        self.refuses(leads_alike, good, "order", InvalidOrder, WRONG_ORDERS)
        self.refuses(leads_alike, good, "rules", InvalidRules, WRONG_RULE_LISTS)
        self.refuses(leads_alike, good, "one", InvalidMonomial, WRONG)
        self.refuses(leads_alike, good, "other", InvalidMonomial, WRONG)
        self.first_refused(leads_alike, good, [
            ("order", None, InvalidOrder), ("rules", None, InvalidRules), ("one", None, InvalidMonomial),
            ("other", None, InvalidMonomial)])

    def test_errors_of_books(self):
        orders = WRONG_ORDERS + [("order", (0, 0)), ("order", (0, 0, 0, 0)), ("order", (0,))]
        good = {"frame": COINS, "order": EVEN, "book": ((1, -2, 1),), "table": (1, 2, 1), "other": (0, 4, 0)}
        wrongs = [("frame", None, InvalidFrame), ("order", ("order", (0, 0)), InvalidOrder), ("book", None, InvalidBook)]
        self.refuses(joined_by_ends, good, "table", InvalidTable, WRONG_TABLES)
        self.refuses(joined_by_ends, good, "other", InvalidTable, WRONG_TABLES)
        self.first_refused(joined_by_ends, good, wrongs + [("table", None, InvalidTable), ("other", (0, 0), InvalidTable)])
        for function, told in ((joined_by_ends, good), (reduced_book, {name: good[name] for name in ("frame", "order", "book")})):
            self.refuses(function, told, "frame", InvalidFrame, WRONG_FRAMES)
            self.refuses(function, told, "order", InvalidOrder, orders)
            self.refuses(function, told, "book", InvalidBook, WRONG_BOOKS)
        self.first_refused(reduced_book, {name: good[name] for name in ("frame", "order", "book")}, wrongs)

    def test_arguments_stay(self):
        self.kept_and_new(reduced, PLAIN, FLAT_RULES)
        self.kept_and_new(completed, PLAIN, FLAT_RULES)
        self.kept_and_new(reduced_book, STEPS, EVEN, ((1, -2, 1),))
        draw = random.Random(7)
        for _ in range(10):
            table = tuple(draw.randint(0, 3) for _ in range(3))
            self.assertIs(joined_by_ends(COINS, EVEN, ((1, -2, 1),), table, table), True)
            self.assertEqual(sums_plainly(COINS, table), sums_plainly(COINS, table))
