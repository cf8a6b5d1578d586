"""Moves, ends and books [6], [41], [42]."""

import itertools
import random
import unittest

from sumroads.errors import InvalidChange, InvalidFrame, InvalidMove, InvalidRows
from sumroads.kernels import basis, change_by
from sumroads.moves import book_of, ends, is_book, is_move, move_of
from tests.helpers import BROAD, COINS, HIGH, Holds, Odd, SQUARE, TOTAL, WRONG_FRAMES, odd_values, sums_plainly

PAIR = ("frame", ((1, 1),))
WRONG_MOVES = [
    (0, 0, 0), (-1, 2, -1), (1, -1, 0), (100, -200, 100), (50, -100, 50), (1, -2), (1, -2, 1, 0), [1, -2, 1],
    (True, -2, 1), (1, -2, True), (), None, 1, "abc", Odd(), (Odd(), 0, 0), (None, 0, 0)]


def unit_moves(cells):
    """All moves of one up and one down, where the total alone is told."""
    return [
        tuple(int(at == up) - int(at == down) for at in range(cells))
        for up, down in itertools.combinations(range(cells), 2)]


class Moves(Holds, unittest.TestCase):
    def test_examples(self):
        self.assertEqual(
            [is_move(COINS, (1, -2, 1)), is_move(COINS, (-1, 2, -1)), is_move(COINS, (1, -1, 0)),
             is_move(COINS, (0, 0, 0)), is_book(COINS, ()), is_book(COINS, ((2, -4, 2), (1, -2, 1)))],
            [True, False, False, False, True, False])
        self.assertEqual(
            [move_of(COINS, (-2, 4, -2)), ends(COINS, (1, -2, 1)),
             book_of(COINS, [(-1, 2, -1), (2, -4, 2), (0, 0, 0), (1, -2, 1)])],
            [(2, -4, 2), ((1, 0, 1), (0, 2, 0)), ((1, -2, 1), (2, -4, 2))])

    def test_is_move(self):
        self.asks(is_move, COINS, right=[(1, -2, 1), (49, -98, 49)], wrong=WRONG_MOVES + odd_values())
        self.asks(is_move, PAIR, right=[(99, -99), (1, -1)], wrong=[(100, -100), (-1, 1), (0, 0)])
        self.asks(is_move, ("frame", ((1, 0), (0, 1))), wrong=[(0, 0), (1, -1)])
        self.assertIs(is_move(value=(0, 1, -1), frame=TOTAL), True)

    def test_is_book(self):
        moves = sorted(unit_moves(16))
        self.asks(is_book, BROAD, right=[(), tuple(moves[:1]), tuple(moves[:60]), tuple(moves[5:65])], wrong=[
            tuple(moves[:61]), tuple(moves[:60][::-1]), tuple(moves[:2] + moves[1:3]), moves[:3],
            tuple(moves[:3]) + (tuple([0] * 16),), (list(moves[0]),), (tuple(-n for n in moves[0]),)])
        self.asks(is_book, COINS, right=[((1, -2, 1), (2, -4, 2))], wrong=[
            ((1, -2, 1), (1, -2, 1)), ((1, -2, 1), Odd()), ((True, -2, 1),), [(1, -2, 1)]])
        self.asks(is_book, COINS, wrong=[(move,) for move in WRONG_MOVES])
        self.asks(is_book, COINS, wrong=[value for value in odd_values() if not (isinstance(value, tuple) and not value)])
        self.assertIs(is_book(value=((1, -1),), frame=PAIR), True)

    def test_moves_and_ends(self):
        draw = random.Random(1)
        for frame in (COINS, SQUARE, TOTAL, BROAD, ("frame", ((2, 3, 5, 7),))):
            many = len(basis(frame))
            for _ in range(40):
                change = change_by(frame, tuple(draw.randint(-3, 3) for _ in range(many)))
                if not any(change) or max(abs(number) for number in change) > 99:
                    continue
                move = move_of(frame, change)
                turned = tuple(-number for number in change)
                self.assertEqual(move, max(change, turned))
                self.assertEqual(move_of(frame, turned), move)
                self.assertIs(is_move(frame, move), True)
                ahead, behind = ends(frame, move)
                self.assertEqual(tuple(a - b for a, b in zip(ahead, behind)), move)
                self.assertTrue(all(min(a, b) == 0 for a, b in zip(ahead, behind)))
                self.assertEqual(sums_plainly(frame, ahead), sums_plainly(frame, behind))
        self.assertEqual(move_of(change=(-99, 99), frame=PAIR), (99, -99))
        self.assertEqual(ends(move=(99, -99), frame=PAIR), ((99, 0), (0, 99)))
        self.assertEqual(move_of(TOTAL, (0, -3, 3)), (0, 3, -3))

    def test_book_of(self):
        self.assertEqual(book_of(COINS, []), ())
        self.assertEqual(book_of(COINS, ((0, 0, 0),)), ())
        self.assertEqual(book_of(HIGH, [tuple([0] * 16)] * 200), ())
        moves = unit_moves(16)
        self.assertEqual(book_of(BROAD, moves[:60]), tuple(sorted(moves[:60])))
        turned = [tuple(-number for number in move) for move in moves[:60]]
        self.assertEqual(book_of(BROAD, (moves[:60] + turned)[::-1]), tuple(sorted(moves[:60])))
        self.too_many("moves", 60, book_of, BROAD, moves[:61])
        self.too_many("moves", 60, book_of, BROAD, moves)
        self.assertEqual(book_of(BROAD, (moves[:60] + turned + turned + turned)[:200]), tuple(sorted(moves[:60])))
        self.assertEqual(book_of(rows=[(1, -1)], frame=PAIR), ((1, -1),))

    def test_errors(self):
        for function in (is_move, is_book):
            self.refuses(function, {"frame": COINS, "value": ()}, "frame", InvalidFrame, WRONG_FRAMES)
        good = {"frame": COINS, "change": (-1, 2, -1)}
        self.refuses(move_of, good, "frame", InvalidFrame, WRONG_FRAMES)
        # The second one of the wrong moves is a change all the same.
        self.refuses(move_of, good, "change", InvalidChange, WRONG_MOVES[:1] + WRONG_MOVES[2:])
        self.refuses(move_of, good, "change", InvalidChange, [(-50, 100, -50), (0, 0, 0)])
        self.first_refused(move_of, good, [("frame", None, InvalidFrame), ("change", None, InvalidChange)])
        good = {"frame": COINS, "move": (1, -2, 1)}
        self.refuses(ends, good, "frame", InvalidFrame, WRONG_FRAMES)
        self.refuses(ends, good, "move", InvalidMove, WRONG_MOVES)
        self.first_refused(ends, good, [("frame", None, InvalidFrame), ("move", None, InvalidMove)])
        good = {"frame": COINS, "rows": [(1, -2, 1)]}
        self.refuses(book_of, good, "frame", InvalidFrame, WRONG_FRAMES)
        self.refuses(book_of, good, "rows", InvalidRows, [
            None, 1, "", {}, Odd(), (1, -2, 1), [(1, -1, 0)], [(50, -100, 50)], [[1, -2, 1]], [(True, -2, 1)], [None],
            [(1, -2, 1), Odd()], [(0, 0, 0)] * 201, {(1, -2, 1): 1}, {(1, -2, 1)}])
        self.first_refused(book_of, good, [("frame", None, InvalidFrame), ("rows", None, InvalidRows)])

    def test_arguments_stay(self):
        self.kept_and_new(book_of, COINS, [(-1, 2, -1), (2, -4, 2)])
        self.kept_and_new(ends, COINS, (1, -2, 1))
        self.kept_and_new(move_of, COINS, (1, -2, 1))
