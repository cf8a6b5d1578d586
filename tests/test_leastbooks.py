"""Least books [92] to [94], [97], thinned ones [96]; moves alone [95]."""

import itertools
import unittest

from sumroads.alone import alone_moves, is_alone, is_only_one
from sumroads.deciding import is_whole_book
from sumroads.errors import InvalidBook, InvalidFrame, InvalidMove
from sumroads.leastbooks import is_least, least_book, least_count, needed_sums, thinned
from sumroads.moves import is_book
from sumroads.wholebooks import whole_book
from tests.helpers import BROAD, COINS, HIGH, Holds, SQUARE, TOTAL, WRONG_FRAMES, lot_plainly, sums_plainly
from tests.test_classes import pieces_plainly
from tests.test_deciding import move_plainly
from tests.test_elimination import NEAR_200, beside, linked, small_frames
from tests.test_moves import WRONG_MOVES, unit_moves
from tests.test_roads import WRONG_BOOKS
from tests.test_wholebooks import GRID, NEAR_60
from tests.walking import distances_plainly

THREE = ((0, 1, -1), (1, -1, 0), (1, 0, -1))
SHOP = ("frame", ((1, 2, 3),))
OF_FRAMES = {"needed_sums": needed_sums, "least_book": least_book, "least_count": least_count, "alone_moves": alone_moves,
             "is_only_one": is_only_one}
OF_BOOKS = {"is_least": is_least, "thinned": thinned}


def ends_plainly(move):
    return tuple(max(a, 0) for a in move), tuple(max(-a, 0) for a in move)


def needed_plainly(frame, most):
    """The pieces of all needed sums of tables with small counts, by listing."""
    found = {}
    for table in itertools.product(range(most + 1), repeat=len(frame[1][0])):
        sums = sums_plainly(frame, table)
        if sums not in found:
            found[sums] = pieces_plainly(lot_plainly(frame, sums))
    return {sums: pieces for sums, pieces in found.items() if len(pieces) > 1}


def choices_at(pieces):
    """All lots of moves, one fewer than pieces, that join all pieces."""
    moves = {}
    for one, other in itertools.combinations(range(len(pieces)), 2):
        for table, behind in itertools.product(pieces[one], pieces[other]):
            moves[move_plainly(table, behind)] = (one, other)
    for chosen in itertools.combinations(sorted(moves), len(pieces) - 1):
        part = list(range(len(pieces)))
        for move in chosen:
            one, other = moves[move]
            part = [part[one] if here == part[other] else here for here in part]
        if len(set(part)) == 1:
            yield chosen


def thinned_plainly(book):
    left = list(book)
    for move in book[::-1]:
        others = [other for other in left if other != move]
        ahead, behind = ends_plainly(move)
        if behind in distances_plainly(others, ahead):
            left = others
    return tuple(left)


class LeastBooks(Holds, unittest.TestCase):
    def test_examples(self):
        self.assertEqual(
            [needed_sums(TOTAL), least_book(TOTAL), least_count(TOTAL), thinned(TOTAL, THREE), is_least(TOTAL, THREE),
             is_least(TOTAL, THREE[:2])],
            [[((1,), 2)], ((0, 1, -1), (1, 0, -1)), 3, ((0, 1, -1), (1, -1, 0)), False, True])
        self.assertEqual(
            [needed_sums(SQUARE), least_book(SQUARE), least_count(SQUARE), is_least(SQUARE, ())],
            [[((1, 1, 1, 1), 1)], ((1, -1, -1, 1),), 1, False])
        self.assertEqual(
            [is_alone(TOTAL, (1, 0, -1)), alone_moves(TOTAL), is_only_one(TOTAL), alone_moves(SQUARE), is_only_one(SQUARE)],
            [False, [], False, [(1, -1, -1, 1)], True])

    def test_needed_sums_by_listing(self):
        found = 0
        for _, frame in small_frames(1, 120, 4, 3, 3):
            told = needed_sums(frame)
            self.assertIs(type(told), list)
            self.assertEqual(told, sorted(told))
            wanted = {sums: len(pieces) - 1 for sums, pieces in needed_plainly(frame, 2).items()}
            for sums, many in told:
                self.assertEqual(len(pieces_plainly(lot_plainly(frame, sums))) - 1, many)
            self.assertLessEqual(set(wanted.items()), set(told))
            found += len(wanted)
        self.assertGreater(found, 60)

    def test_the_least_book_by_its_words(self):
        for _, frame in small_frames(2, 120, 4, 3, 3):
            moves = []
            for sums, _ in needed_sums(frame):
                pieces = pieces_plainly(lot_plainly(frame, sums))
                moves.extend(move_plainly(pieces[0][0], piece[0]) for piece in pieces[1:])
            told = least_book(frame)
            self.assertEqual(told, tuple(sorted(moves)))
            self.assertIs(is_book(frame, told), True)
            self.assertIs(is_whole_book(frame, told), True)
            self.assertIs(is_least(frame, told), True)

    def test_all_least_books_of_small_frames(self):
        counted = 0
        for _, frame in small_frames(3, 80, 4, 2, 3):
            choices = []
            for sums, _ in needed_sums(frame):
                choices.append(list(choices_at(pieces_plainly(lot_plainly(frame, sums)))))
            many = 1
            for some in choices:
                many *= len(some)
            self.assertEqual(least_count(frame), many)
            self.assertIs(is_only_one(frame), many == 1)
            counted += many > 1
            for chosen in itertools.islice(itertools.product(*choices), 12):
                book = tuple(sorted(move for some in chosen for move in some))
                self.assertIs(is_least(frame, book), True)
                self.assertIs(is_whole_book(frame, book), True)
        self.assertGreater(counted, 20)
        self.assertEqual(least_count(BROAD), 16 ** 14)
        self.assertEqual(least_count(HIGH), 1)

    def test_books_with_one_move_more_less_or_another(self):
        for draw, frame in small_frames(4, 80, 4, 2, 3):
            book, whole = least_book(frame), whole_book(frame)
            others = [move for move in whole if move not in book]
            for move in book:
                less = tuple(other for other in book if other != move)
                self.assertIs(is_least(frame, less), False)
                self.assertIs(is_whole_book(frame, less), False)
                for other in others[:3]:
                    exchanged = tuple(sorted(less + (other,)))
                    self.assertIs(is_least(frame, exchanged), is_whole_book(frame, exchanged))
            for other in others:
                self.assertIs(is_least(frame, tuple(sorted(book + (other,)))), False)
            double = sorted(set(book) | {tuple(2 * number for number in move) for move in book[:1]})
            if book:
                self.assertIs(is_least(frame, tuple(double)), False)
                # As many moves, one of them twice another one.
                self.assertIs(is_least(frame, tuple(sorted(double[1:] if double[0] in book else double[:-1]))),
                              is_whole_book(frame, tuple(sorted(double[1:] if double[0] in book else double[:-1]))))

    def test_thinned(self):
        left_out = 0
        for draw, frame in small_frames(5, 100, 4, 2, 3):
            whole = whole_book(frame)
            moves = set(whole)
            for one, other in itertools.combinations(whole, 2):
                change = tuple(a - b for a, b in zip(one, other))
                if any(change) and draw.random() < 0.5:
                    moves.add(max(change, tuple(-number for number in change)))
            book = tuple(sorted(moves))[:60]
            told = thinned(frame, book)
            self.assertEqual(told, thinned_plainly(book))
            left_out += len(book) - len(told)
            if is_whole_book(frame, book):
                self.assertIs(is_least(frame, told), True)
            few = tuple(move for move in book if draw.random() < 0.6)
            self.assertEqual(thinned(frame, few), thinned_plainly(few))
        self.assertGreater(left_out, 30)
        self.assertEqual(thinned(TOTAL, ()), ())
        self.assertEqual(thinned(book=THREE[:1], frame=TOTAL), THREE[:1])
        self.assertEqual(thinned(COINS, ((1, -2, 1), (2, -4, 2), (3, -6, 3))), ((1, -2, 1),))

    def test_greater_frames(self):
        self.assertEqual(needed_sums(BROAD), [((1,), 15)])
        self.assertEqual((needed_sums(HIGH), least_book(HIGH), is_least(HIGH, ())), ([], (), True))
        self.assertEqual(len(least_book(GRID)), 9)
        self.assertIs(is_only_one(GRID), True)
        self.assertEqual(alone_moves(GRID), list(whole_book(GRID)))
        moves = sorted(unit_moves(16))
        self.assertIs(is_least(BROAD, tuple(move for move in moves if move[0])), True)
        self.assertIs(is_least(BROAD, tuple(move for move in moves if move[0])[1:]), False)

    def test_alone_by_listing(self):
        alone = 0
        for _, frame in small_frames(6, 120, 4, 3, 3):
            wanted = []
            for move in whole_book(frame):
                tables = lot_plainly(frame, sums_plainly(frame, ends_plainly(move)[0]))
                self.assertIs(is_alone(frame, move), len(tables) == 2)
                if len(tables) == 2:
                    wanted.append(move)
                double = tuple(2 * number for number in move)
                self.assertIs(is_alone(frame, double), False)
            self.assertEqual(alone_moves(frame), wanted)
            alone += len(wanted)
            self.assertIs(is_only_one(frame), all(is_alone(frame, move) for move in least_book(frame)))
        self.assertGreater(alone, 40)
        self.assertIs(is_alone(move=(1, -2, 1), frame=COINS), True)

    def test_rules_counts_and_moves(self):
        for function in OF_FRAMES.values():
            self.too_many("rules", 200, function, beside(NEAR_200, 8))
            self.too_many("counts", 20000, function, linked(6))
            self.too_many("moves", 60, function, linked(4))
            self.too_many("moves", 60, function, beside(NEAR_60, 3))
            self.assertIsNotNone(function(linked(3)))
            self.assertIsNotNone(function(beside(NEAR_60, 2)))
        for frame, what, limit in ((beside(NEAR_200, 8), "rules", 200), (linked(6), "counts", 20000), (linked(4), "moves", 60)):
            self.too_many(what, limit, is_least, frame, ())
            self.assertEqual(thinned(frame, ()), ())

    def test_tables(self):
        within, beyond = ("frame", ((1,) * 6 + (8,),)), ("frame", ((1,) * 6 + (9,),))
        self.assertEqual(needed_sums(within), [((1,), 5), ((8,), 1)])
        self.assertEqual(least_count(within), 6 ** 4 * 1287)
        self.assertIs(is_least(within, least_book(within)), True)
        for function in OF_FRAMES.values():
            self.too_many("tables", 2000, function, beyond)
        self.too_many("tables", 2000, is_least, beyond, ())
        pair = ("frame", ((1, 1),))
        self.assertIs(is_alone(within, (0, 0, 0, 0, 0, 8, -1)), False)
        self.too_many("tables", 2000, is_alone, beyond, (0, 0, 0, 0, 0, 9, -1))
        self.assertIs(is_alone(pair, (99, -99)), False)
        # The ahead end of the last move of three, and all that the others lead to from there.
        moves = [move + (0,) for move in unit_moves(6)]
        for last, frame in ((8, within), (9, beyond)):
            book = tuple(sorted(moves + [(0, 0, 0, 0, 0, last, -1)]))
            if last == 8:
                self.assertEqual(len(thinned(frame, book)), 6)
            else:
                self.too_many("tables", 2000, thinned, frame, book)

    def test_errors(self):
        for function in OF_FRAMES.values():
            self.refuses(function, {"frame": COINS}, "frame", InvalidFrame, WRONG_FRAMES)
        good = {"frame": COINS, "book": ()}
        for function in OF_BOOKS.values():
            self.refuses(function, good, "frame", InvalidFrame, WRONG_FRAMES)
            self.refuses(function, good, "book", InvalidBook, WRONG_BOOKS)
            self.first_refused(function, good, [("frame", None, InvalidFrame), ("book", None, InvalidBook)])
            self.refuses(function, {"frame": beside(NEAR_200, 8), "book": ()}, "book", InvalidBook, [None])
        good = {"frame": COINS, "move": (1, -2, 1)}
        self.refuses(is_alone, good, "frame", InvalidFrame, WRONG_FRAMES)
        self.refuses(is_alone, good, "move", InvalidMove, WRONG_MOVES)
        self.first_refused(is_alone, good, [("frame", None, InvalidFrame), ("move", None, InvalidMove)])

    def test_arguments_stay_and_lists_are_new(self):
        self.assertIs(type(self.kept_and_new(needed_sums, TOTAL)), list)
        self.assertIs(type(self.kept_and_new(least_book, TOTAL)), tuple)
        self.assertIs(type(self.kept_and_new(thinned, TOTAL, THREE)), tuple)
        self.assertIs(type(self.kept_and_new(alone_moves, SQUARE)), list)
        self.kept_and_new(alone_moves, TOTAL)
        self.kept_and_new(is_least, TOTAL, THREE)
        self.assertEqual(needed_sums(frame=SHOP), needed_sums(SHOP))
