"""Papers and their judge [81] to [84], [86]."""

import random
import unittest

from sumroads.closedlots import closed_lot, parted
from sumroads.elimination import elimination_rules, sum_order
from sumroads.errors import InvalidBook, InvalidFrame, InvalidMonomial
from sumroads.papers import is_paper, paper_order, reason, start_rules, sums_of_monomial
from sumroads.roads import road
from sumroads.wholebooks import whole_book
from tests.helpers import BROAD, COINS, HIGH, Holds, Odd, SQUARE, TOTAL, WRONG_FRAMES, lot_plainly, odd_values, sums_plainly
from tests.judging import order_plainly, reason_plainly, starts_plainly, sums_of_both
from tests.test_elimination import small_frames
from tests.test_roads import WRONG_BOOKS

SHOP, BOOK = ("frame", ((1, 2, 3),)), ((1, 1, -1), (2, -1, 0))
RULES = (((0, 0, 2, 0), (0, 1, 0, 1)), ((0, 1, 1, 0), (0, 0, 0, 1)), ((0, 2, 0, 0), (0, 0, 1, 0)), ((1, 0, 0, 0), (0, 1, 0, 0)))
ROADS = (((0, 2, 0), (2, 1, 0), (1, 0, 1)), ((1, 1, 0), (0, 0, 1)), ((2, 0, 0), (0, 1, 0)))
YES = ("whole", RULES, ROADS)
NO = ("parted", (0, 2, 0), (1, 0, 1), ((0, 2, 0), (2, 1, 0), (4, 0, 0)))


def yes_of(frame, book):
    """A paper of a yes, made of other functions of the package."""
    rules, rows = elimination_rules(frame), len(frame[1])
    pairs = [(ahead[rows:], behind[rows:]) for ahead, behind in rules if not any(ahead[:rows])]
    return ("whole", rules, tuple(road(frame, book, *pair) for pair in pairs))


def no_of(frame, book, sums):
    told = parted(frame, book, sums)
    return None if told is None else ("parted",) + told + (tuple(closed_lot(frame, book, told[0])),)


def otherwise(draw, value):
    """The value with one thing otherwise at some place in it."""
    if type(value) is int:
        return draw.choice([value + 1, value - 1, 0, 20001, True, None, value + 1])
    if type(value) is str or not value or draw.random() < 0.25:
        return draw.choice([None, (), value[:-1], value + value[-1:], value[::-1], value[1:], value[1:] + value[:1]])
    at = draw.randrange(len(value))
    if draw.random() < 0.1:
        return list(value)
    return value[:at] + (otherwise(draw, value[at]),) + value[at + 1:]


class Papers(Holds, unittest.TestCase):
    def test_examples(self):
        self.assertEqual(
            [paper_order(SHOP), start_rules(SHOP)[1], sums_of_monomial(SHOP, (4, 1, 0, 2)), is_paper(SHOP, BOOK, YES),
             is_paper(SHOP, BOOK[1:], ("parted", (0, 0, 1), (1, 1, 0), ((0, 0, 1),)))],
            [("order", (1, 0, 0, 0)), ((2, 0, 0, 0), (0, 0, 1, 0)), (11,), True, True])
        self.assertEqual(
            [reason(SHOP, BOOK, ("whole", RULES, ROADS[1:])), reason(SHOP, BOOK, ("whole", RULES[1:], ROADS[1:])),
             reason(SHOP, BOOK, ("whole", RULES[:3], ROADS)), reason(SHOP, BOOK, ["whole"]),
             reason(SHOP, BOOK, ("parted", (0, 0, 1), (1, 1, 0), ((0, 0, 1),)))],
            ["roads", "overlap", "start", "form", "closed"])

    def test_orders_starts_and_sums(self):
        for draw, frame in list(small_frames(1, 80, 6, 6, 9)) + [(random.Random(1), frame) for frame in (BROAD, HIGH, SQUARE)]:
            self.assertEqual(paper_order(frame), order_plainly(frame))
            self.assertEqual(paper_order(frame), sum_order(frame))
            self.assertEqual(start_rules(frame), starts_plainly(frame))
            monomial = tuple(draw.choice([0, 1, 20000]) for _ in paper_order(frame)[1])
            self.assertEqual(sums_of_monomial(frame, monomial), sums_of_both(frame, monomial))
        self.assertEqual(start_rules(frame=("frame", ((2, 2),))), [((2, 0, 0), (0, 1, 0)), ((2, 0, 0), (0, 0, 1))])
        self.assertEqual(sums_of_monomial(monomial=(1, 2), frame=("frame", ((3,),))), (7,))

    def held(self, frame, book, value, wanted):
        self.assertEqual(reason(frame, book, value), wanted)
        self.assertIs(is_paper(frame, book, value), wanted is None)

    def test_papers_that_are_taken(self):
        yes = no = 0
        for draw, frame in small_frames(2, 80, 4, 3, 3):
            book = whole_book(frame)
            self.held(frame, book, yes_of(frame, book), None)
            yes += 1
            few = tuple(sorted(draw.sample(book, len(book) // 2)))
            for move in book:
                told = no_of(frame, few, sums_plainly(frame, tuple(max(number, 0) for number in move)))
                if told is not None:
                    self.held(frame, few, told, None)
                    no += 1
        self.assertGreater(no, 50)
        self.held(HIGH, (), ("whole", elimination_rules(HIGH), ()), None)
        self.held(SHOP, BOOK[1:], NO, None)

    def test_never_a_yes_and_a_no(self):
        for frame in (SHOP, TOTAL, COINS, SQUARE):
            book = whole_book(frame)
            for sums in {sums_plainly(frame, tuple(max(number, 0) for number in move)) for move in book}:
                tables = lot_plainly(frame, sums)
                for table in tables:
                    for other in tables:
                        for closed in ((table,), tuple(tables), tuple(here for here in tables if here != other)):
                            self.assertIs(is_paper(frame, book, ("parted", table, other, closed)), False)

    def test_each_word_with_one_thing_otherwise(self):
        draw = random.Random(3)
        told = {}
        papers = [(SHOP, BOOK, YES), (SHOP, BOOK[1:], NO)]
        for frame in (TOTAL, COINS, SQUARE, ("frame", ((2, 3, 4),))):
            book = whole_book(frame)
            papers.append((frame, book, yes_of(frame, book)))
            move = book[0]
            papers.append((frame, book[1:], no_of(frame, book[1:], sums_plainly(frame, tuple(max(n, 0) for n in move)))))
        for frame, book, paper in papers:
            self.held(frame, book, paper, None)
            for _ in range(700):
                value = otherwise(draw, paper)
                wanted = reason_plainly(frame, book, value)
                self.held(frame, book, value, wanted)
                told[wanted] = told.get(wanted, 0) + 1
        self.assertEqual(set(told), {None, "form", "sums", "start", "overlap", "roads", "closed"})
        self.assertTrue(all(many > 5 for many in told.values()), told)

    def test_the_first_word_that_is_so(self):
        wrong_sums = RULES[:3] + (((1, 0, 0, 0), (0, 0, 0, 0)),)
        self.held(SHOP, BOOK, ("whole", wrong_sums, ()), "sums")
        self.held(SHOP, BOOK, ("whole", (), ()), "start")
        self.held(SHOP, BOOK, ("whole", RULES[3:], ROADS), "start")
        # All start rules have one end by rules that are not complete: no roads are looked at.
        few = (((0, 1, 1, 0), (0, 0, 0, 1)), ((0, 2, 0, 0), (0, 0, 1, 0)), ((1, 0, 0, 0), (0, 1, 0, 0)))
        self.held(SHOP, BOOK, ("whole", few, ()), "overlap")
        self.held(SHOP, (), YES, "roads")
        self.held(SHOP, BOOK, ("whole", RULES, ROADS + ROADS[:1]), "roads")
        self.held(SHOP, BOOK, ("whole", RULES, ROADS[::-1]), "roads")
        self.held(SHOP, BOOK, ("whole", RULES, ((),) + ROADS[1:]), "roads")
        self.held(SHOP, BOOK, ("whole", RULES, (ROADS[0][:2],) + ROADS[1:]), "roads")
        self.held(SHOP, BOOK, ("whole", RULES, (ROADS[0][::-1],) + ROADS[1:]), "roads")
        self.held(SHOP, BOOK, ("whole", RULES, (ROADS[0][::2],) + ROADS[1:]), "roads")
        self.held(SHOP, BOOK, ("whole", RULES, (ROADS[0] + ROADS[0][1::-1] + ROADS[0][1:],) + ROADS[1:]), None)
        self.held(SHOP, BOOK[1:], ("parted", (0, 2, 0), (1, 0, 0), ((0, 2, 0),)), "sums")
        for closed in ((), NO[3][1:], NO[3][::-1], NO[3][:1] + NO[3], NO[3] + ((1, 0, 1),), NO[3][:2]):
            self.held(SHOP, BOOK[1:], NO[:3] + (closed,), "closed")
        self.held(SHOP, BOOK, NO, "closed")
        self.held(SHOP, BOOK[1:], NO[:2] + (NO[1],) + NO[3:], "closed")
        # Further closed tables, of other sums too, do no harm.
        self.held(SHOP, BOOK[1:], NO[:3] + (((0, 0, 0),) + NO[3],), None)
        self.held(SHOP, BOOK[1:], NO[:3] + (((0, 0, 7),) + NO[3],), None)
        self.held(SHOP, BOOK[1:], NO[:3] + (NO[3] + ((5, 0, 0),),), "closed")

    def test_values_of_all_kinds(self):
        for frame, book in ((SHOP, BOOK), (TOTAL, ())):
            for value in odd_values() + [
                    (word,) + rest for word in ("whole", "parted", "Whole", 1, None, Odd(), b"whole")
                    for rest in ((), (RULES,), (Odd(), Odd()), (Odd(), Odd(), Odd()), (None, None, None, None))]:
                self.held(frame, book, value, "form")
        for value in (list(YES), list(NO), YES + (1,), NO[:3], YES[:2], ("parted",) + YES[1:], ("whole",) + NO[1:],
                      ("whole", list(RULES), ROADS), ("whole", RULES[::-1], ROADS), ("whole", RULES + RULES[3:], ROADS),
                      ("whole", RULES, list(ROADS)), ("whole", RULES, (list(ROADS[0]),) + ROADS[1:]),
                      ("whole", RULES, (((0, 2, True),),) + ROADS[1:]), ("whole", RULES, (((0, 0, 6667),),) + ROADS[1:]),
                      ("whole", RULES, ROADS[:2] + (None,)), ("whole", (RULES[0][::-1],) + RULES[1:], ROADS),
                      ("parted", [0, 2, 0]) + NO[2:], ("parted", (0, 2)) + NO[2:], NO[:3] + (list(NO[3]),),
                      NO[:3] + (NO[3] + ((0, -1, 0),),), NO[:3] + (None,), ("parted", NO[1], (20001, 0, 0), NO[3])):
            self.held(SHOP, BOOK, value, "form")

    def test_2000_tables_and_more(self):
        pair, move = ("frame", ((1, 1),)), ((1, -1),)
        rules = elimination_rules(pair)
        self.assertEqual(rules, (((0, 1, 0), (0, 0, 1)), ((1, 0, 0), (0, 0, 1))))
        there = ((1, 0), (0, 1))
        self.held(pair, move, ("whole", rules, (there * 1000,)), None)
        self.held(pair, move, ("whole", rules, (there * 1000 + there,)), "form")
        tables = tuple((at, 2001 - at) for at in range(2001))
        self.held(pair, (), ("parted", tables[5], (2001, 0), tables[:2000]), None)
        self.held(pair, (), ("parted", tables[5], (2001, 0), tables), "form")

    def test_200_rules_and_more(self):
        rules = tuple(sorted([((at + 1, 0), (0, at + 1)) for at in range(200)]))
        frame, road_there = ("frame", ((1,),)), ()
        self.held(frame, (), ("whole", rules, road_there), None)
        self.held(frame, (), ("whole", rules + (((201, 0), (0, 201)),), road_there), "form")

    def test_counts_that_are_met_in_results(self):
        # With a to b and the letter to b all else is complete: just the counts bar it.
        pair, book = ("frame", ((1, 1),)), ((1, -1), (99, -99))
        base = (((0, 1, 0), (0, 0, 1)), ((1, 0, 0), (0, 0, 1)))
        there = tuple((9900 - 99 * at, 99 * at) for at in range(101))
        for many, wanted in ((10100, None), (10101, "overlap")):
            more = (((0, 9900, 0), (0, 0, 9900)), ((0, 1, many), (0, 0, many + 1)))
            rules = tuple(sorted(base + more))
            roads = (((1, 0), (0, 1)), ((1, many), (0, many + 1)), there)
            self.held(pair, book, ("whole", rules, roads), wanted)
            self.assertEqual(reason_plainly(pair, book, ("whole", rules, roads)), wanted)
            # The counts come ahead of the roads.
            self.held(pair, book, ("whole", rules, ()), wanted or "roads")

    def test_counts_that_are_met_on_the_way_to_ends(self):
        pair, book = ("frame", ((1, 1),)), ((1, -1),)
        base = (((0, 1, 0), (0, 0, 1)), ((1, 0, 0), (0, 0, 1)))
        for many, wanted in ((10000, None), (10001, "overlap")):
            more = (((many, 0, 0), (0, many, 0)), ((1, 0, 10000), (0, 0, 10001)))
            value = ("whole", tuple(sorted(base + more)), (((1, 0), (0, 1)),))
            self.held(pair, book, value, wanted)
            # In (2) none is met, as rules that keep sums lead a column to no greater counts than its own.
            self.held(pair, book, ("whole", tuple(sorted(base[:1] + more)), ()), "start")

    def test_errors(self):
        for function in (paper_order, start_rules):
            self.refuses(function, {"frame": COINS}, "frame", InvalidFrame, WRONG_FRAMES)
        good = {"frame": COINS, "monomial": (0,) * 5}
        self.refuses(sums_of_monomial, good, "frame", InvalidFrame, WRONG_FRAMES)
        self.refuses(sums_of_monomial, good, "monomial", InvalidMonomial, [
            (0,) * 3, (0,) * 6, [0] * 5, (0, 0, 0, 0, True), (0, 0, 0, 0, 20001), (-1, 0, 0, 0, 0), None, Odd(), (), ""])
        self.first_refused(sums_of_monomial, good, [("frame", None, InvalidFrame), ("monomial", None, InvalidMonomial)])
        good = {"frame": COINS, "book": (), "value": None}
        for function in (is_paper, reason):
            self.refuses(function, good, "frame", InvalidFrame, WRONG_FRAMES)
            self.refuses(function, good, "book", InvalidBook, WRONG_BOOKS)
            self.first_refused(function, good, [("frame", None, InvalidFrame), ("book", None, InvalidBook)])
        self.assertIs(is_paper(value=YES, book=BOOK, frame=SHOP), True)
        self.assertIs(reason(value=YES, book=BOOK, frame=SHOP), None)

    def test_arguments_stay_and_lists_are_new(self):
        self.assertIs(type(self.kept_and_new(start_rules, SHOP)), list)
        self.kept_and_new(paper_order, SHOP)
        self.kept_and_new(sums_of_monomial, SHOP, (4, 1, 0, 2))
        self.kept_and_new(reason, SHOP, BOOK, YES)
