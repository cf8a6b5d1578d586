"""Deciding whether a book is whole [81] to [88], held against walks of listed lots."""

import itertools
import unittest

from sumroads.deciding import decided, filled_up, first_parted, is_whole_book, lacking
from sumroads.elimination import elimination_rules
from sumroads.errors import InvalidBook, InvalidFrame
from sumroads.moves import book_of, is_book
from sumroads.papers import is_paper
from sumroads.wholebooks import whole_book
from tests.helpers import BROAD, COINS, HIGH, Holds, SQUARE, TOTAL, WRONG_FRAMES, lot_plainly, sums_plainly
from tests.judging import reason_plainly
from tests.test_elimination import NEAR_200, beside, linked, small_frames
from tests.test_moves import unit_moves
from tests.test_papers import BOOK, SHOP
from tests.test_roads import WRONG_BOOKS
from tests.test_unparted import chained
from tests.test_wholebooks import NEAR_60, TO_100, TO_99
from tests.walking import distances_plainly

LISTED = {"decided": decided, "is_whole_book": is_whole_book, "first_parted": first_parted, "lacking": lacking,
          "filled_up": filled_up}


def move_plainly(table, other):
    change = tuple(a - b for a, b in zip(table, other))
    return max(change, tuple(-number for number in change))


def cell_rules_plainly(frame):
    rows = len(frame[1])
    return [(ahead[rows:], behind[rows:]) for ahead, behind in elimination_rules(frame) if not any(ahead[:rows])]


def frames_and_books(seed, many):
    """Frames, each with a book of some of its moves, with others, or with all of a whole book."""
    for draw, frame in small_frames(seed, many, 4, 3, 3):
        whole = whole_book(frame)
        changes = [move for move in whole if draw.random() < draw.choice([0.3, 0.7, 1, 1])]
        if len(whole) > 1 and draw.random() < 0.4:
            one, other = draw.sample(whole, 2)
            sign = draw.choice([-1, 1])
            changes.append(tuple(a + sign * b for a, b in zip(one, other)))
        yield draw, frame, book_of(frame, changes)


def has_parted_lot(frame, book, most):
    """Whether some lot of tables with small counts has more than one part."""
    cells = len(frame[1][0])
    done = set()
    for table in itertools.product(range(most + 1), repeat=cells):
        sums = sums_plainly(frame, table)
        if sums not in done:
            done.add(sums)
            if set(distances_plainly(book, table)) != set(lot_plainly(frame, sums)):
                return True
    return False


class Deciding(Holds, unittest.TestCase):
    def test_examples(self):
        self.assertEqual(
            [is_whole_book(SHOP, BOOK), is_whole_book(SHOP, BOOK[1:]), first_parted(SHOP, BOOK), first_parted(SHOP, BOOK[1:]),
             is_paper(SHOP, BOOK, decided(SHOP, BOOK))], [True, False, None, ((0, 2, 0), (1, 0, 1)), True])
        self.assertEqual(
            [lacking(SHOP, BOOK[1:]), filled_up(SHOP, BOOK[1:]), decided(SHOP, BOOK[1:])[0], lacking(SHOP, BOOK)],
            [[(1, -2, 1), (1, 1, -1)], ((1, -2, 1), (1, 1, -1), (2, -1, 0)), "parted", []])

    def test_each_paper_is_taken(self):
        told = {"whole": 0, "parted": 0}
        for _, frame, book in frames_and_books(1, 200):
            paper = decided(frame, book)
            self.assertIs(is_paper(frame, book, paper), True)
            self.assertIs(reason_plainly(frame, book, paper), None)
            self.assertIs(is_whole_book(frame, book), paper[0] == "whole")
            told[paper[0]] += 1
        self.assertGreater(min(told.values()), 30)

    def test_whole_exactly_if_walks_say_so(self):
        told = {True: 0, False: 0}
        for draw, frame, book in frames_and_books(2, 80):
            whole = is_whole_book(frame, book)
            told[whole] += 1
            if whole:
                self.assertIs(has_parted_lot(frame, book, 2 if len(frame[1][0]) < 4 else 1), False)
                table = tuple(draw.randint(0, 4) for _ in frame[1][0])
                self.assertEqual(set(distances_plainly(book, table)), set(lot_plainly(frame, sums_plainly(frame, table))))
            else:
                table, other = first_parted(frame, book)
                self.assertEqual(sums_plainly(frame, table), sums_plainly(frame, other))
                self.assertNotIn(other, distances_plainly(book, table))
            if has_parted_lot(frame, book, 1):
                self.assertIs(whole, False)
        self.assertGreater(min(told.values()), 10)

    def test_cell_rules_that_are_not_joined(self):
        for _, frame, book in frames_and_books(3, 150):
            rules = cell_rules_plainly(frame)
            parted = [rule for rule in rules if rule[1] not in distances_plainly(book, rule[0])]
            self.assertEqual(first_parted(frame, book), parted[0] if parted else None)
            told = lacking(frame, book)
            self.assertIs(type(told), list)
            self.assertEqual(told, sorted(move_plainly(*rule) for rule in parted))
            self.assertIs(is_whole_book(frame, book), not parted)
            paper = decided(frame, book)
            if parted:
                self.assertEqual(paper[0], "parted")

    def test_filled_up(self):
        grown = 0
        for _, frame, book in frames_and_books(4, 150):
            moves = list(book)
            for table, other in cell_rules_plainly(frame):
                if other not in distances_plainly(moves, table):
                    moves.append(move_plainly(table, other))
            told = filled_up(frame, book)
            self.assertEqual(told, tuple(sorted(moves)))
            self.assertIs(is_book(frame, told), True)
            self.assertIs(is_whole_book(frame, told), True)
            self.assertEqual(lacking(frame, told), [])
            self.assertEqual(filled_up(frame, told), told)
            grown += len(told) - len(book)
        self.assertGreater(grown, 25)

    def test_whole_books_lack_nothing(self):
        for frame in (TOTAL, COINS, SQUARE, SHOP, BROAD, HIGH):
            book = whole_book(frame)
            self.assertIs(is_whole_book(frame, book), True)
            self.assertIs(first_parted(frame, book), None)
            self.assertEqual(lacking(frame, book), [])
            self.assertEqual(filled_up(frame, book), book)
            self.assertEqual(decided(frame, book)[:2], ("whole", elimination_rules(frame)))
            self.assertIs(is_paper(frame, book, decided(frame, book)), True)
        self.assertEqual(lacking(BROAD, ()), sorted(whole_book(BROAD)))
        self.assertEqual(filled_up(SQUARE, ()), ((1, -1, -1, 1),))
        # Not the whole book, but whole.
        self.assertIs(is_whole_book(TOTAL, ((1, -1, 0), (1, 0, -1))), True)
        self.assertIs(is_whole_book(TOTAL, ((0, 2, -2), (1, -1, 0), (1, 0, -1))), True)
        self.assertIs(is_whole_book(TOTAL, ((0, 2, -2), (1, -1, 0))), False)

    def test_rules_and_counts(self):
        for function in LISTED.values():
            self.too_many("rules", 200, function, beside(NEAR_200, 8), ())
            self.too_many("counts", 20000, function, linked(6), ())

    def test_sums(self):
        # The last cell's count is 13122 in the one cell rule of both; its row's sum is this, or twice so much.
        just = chained((5, 1), (5, 1), (5, 1), (5, 1), (4, 1), (8, 1))
        self.assertEqual(max(sums_plainly(just, cell_rules_plainly(just)[0][0])), 20000)
        self.assertIs(is_whole_book(just, ()), False)
        self.too_many("sums", 20000, is_whole_book, chained((9, 1), (8, 1), (7, 1), (5, 1), (8, 2)), ())
        within, beyond = linked(6, (2, 1)), linked(6, (4, 2))
        self.assertEqual(cell_rules_plainly(within), cell_rules_plainly(beyond))
        self.assertEqual(max(sums_plainly(within, cell_rules_plainly(within)[0][0])), 13122)
        self.assertIs(is_whole_book(within, ()), False)
        self.assertEqual(decided(within, ())[0], "parted")
        for function in LISTED.values():
            self.too_many("sums", 20000, function, beyond, ())

    def test_counts_that_its_paper_would_meet(self):
        # Frames without changes, so that the book without moves is whole.
        rows = linked(6, (3, 1))[1]
        within, beyond = ("frame", rows + ((1, 0, 0, 0, 0, 0),)), ("frame", rows + ((9, 9, 1, 0, 0, 0),))
        self.assertEqual(decided(within, ()), ("whole", elimination_rules(within), ()))
        self.assertEqual(reason_plainly(beyond, (), ("whole", elimination_rules(beyond), ())), "overlap")
        self.too_many("counts", 20000, decided, beyond, ())
        self.assertIs(is_whole_book(beyond, ()), True)
        self.assertIs(first_parted(beyond, ()), None)
        self.assertEqual((lacking(beyond, ()), filled_up(beyond, ())), ([], ()))

    def test_tables(self):
        within, beyond = ("frame", ((1,) * 6 + (8,),)), ("frame", ((1,) * 6 + (9,),))
        moves = [move + (0,) for move in unit_moves(6)]
        for frame, last in ((within, 8), (beyond, 9)):
            book = book_of(frame, moves)
            rule = cell_rules_plainly(frame)[0]
            self.assertEqual(rule, ((0, 0, 0, 0, 0, last, 0), (0, 0, 0, 0, 0, 0, 1)))
            whole = book_of(frame, moves + [rule[0][:6] + (-1,)])
            for function in LISTED.values():
                if last == 9:
                    self.too_many("tables", 2000, function, frame, book)
                    self.too_many("tables", 2000, function, frame, whole)
            if last == 8:
                self.assertEqual(len(decided(frame, book)[3]), 1287)
                self.assertEqual(first_parted(frame, book), rule)
                self.assertEqual(lacking(frame, book), [(0, 0, 0, 0, 0, 8, -1)])
                self.assertIs(is_whole_book(frame, whole), True)
                self.assertEqual(filled_up(frame, book), whole)
        # What stands ahead is told, whatever would come of later ones.
        self.assertEqual(first_parted(beyond, ()), rule)
        self.assertEqual(decided(beyond, ()), ("parted",) + rule + ((rule[0],),))

    def test_moves(self):
        self.assertEqual(lacking(linked(3), ()), [(1, -9, 81)])
        for function, wanted in ((lacking, [(9, 99, -72, -44)]), (filled_up, ((9, 99, -72, -44),))):
            self.assertEqual(function(TO_99, ()), wanted)
            self.too_many("moves", 60, function, TO_100, ())
        self.assertEqual(filled_up(linked(3), ()), ((1, -9, 81),))
        self.assertIs(is_whole_book(linked(4), ()), False)
        self.assertEqual(decided(linked(4), ())[0], "parted")
        self.assertEqual(first_parted(linked(4), ()), ((0, 9, 0, 729), (1, 0, 81, 0)))
        for function in (lacking, filled_up):
            self.too_many("moves", 60, function, linked(4), ())
        # More than 60 may be lacking, but not put in.
        frame = beside(NEAR_60, 3)
        self.assertEqual(len(lacking(frame, ())), 61)
        little = ("frame", ((1,) * 13,))
        full = tuple(sorted(move for move in unit_moves(13) if move[12] == 0))[:60]
        # One move more is enough for all: the first one that is lacking.
        self.assertEqual(len(lacking(little, full)), 12)
        self.assertEqual(filled_up(little, full[:59]), tuple(sorted(full[:59] + ((0,) * 11 + (1, -1),))))
        self.too_many("moves", 60, filled_up, little, full)

    def test_errors(self):
        good = {"frame": COINS, "book": ()}
        for function in LISTED.values():
            self.refuses(function, good, "frame", InvalidFrame, WRONG_FRAMES)
            self.refuses(function, good, "book", InvalidBook, WRONG_BOOKS)
            self.first_refused(function, good, [("frame", None, InvalidFrame), ("book", None, InvalidBook)])
            self.refuses(function, {"frame": beside(NEAR_200, 8), "book": ()}, "book", InvalidBook, [None, [()]])

    def test_arguments_stay_and_lists_are_new(self):
        self.kept_and_new(decided, SHOP, BOOK)
        self.kept_and_new(decided, SHOP, BOOK[1:])
        self.kept_and_new(lacking, SHOP, BOOK[1:])
        self.kept_and_new(lacking, SHOP, BOOK)
        self.kept_and_new(filled_up, SHOP, BOOK[1:])
        self.kept_and_new(first_parted, SHOP, BOOK[1:])
        self.assertIs(type(decided(book=BOOK, frame=SHOP)), tuple)
