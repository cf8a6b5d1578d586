"""Steps by draws, walks, matrices [142], [143], [147], held against fractions."""

import random
import unittest

from sumroads.errors import InvalidBook, InvalidDraw, InvalidDraws, InvalidFrame, InvalidKind, InvalidSums, InvalidTable, NoMoves
from sumroads.lots import lot
from sumroads.walks import matrix, step_by, walk
from tests.helpers import BROAD, COINS, HIGH, Holds, Odd, SQUARE, TOTAL, WRONG_FRAMES, sums_plainly
from tests.test_draws import HERE, MOVE, THERE, WRONG_KINDS
from tests.test_elimination import STEPS
from tests.test_lots import WRONG_SUMS, WRONG_TABLES
from tests.test_moves import unit_moves
from tests.test_roads import WRONG_BOOKS
from tests.walkers import matrix_plainly, ratio_of, step_plainly
from tests.walking import random_books

PAIR, ONE_UP = ("frame", ((1, 1),)), ((1, -1),)
WRONG_DRAWS = [(2, 0, 1), (0, 1, 1), (0, 2, 1), [0, 0, 1], (0, 0), (True, 0, 1), (0, -1, 1), (0, 0, 1, 1), (), None, 1, True, "001", Odd(), (0, Odd(), 1)]


class Walks(Holds, unittest.TestCase):
    def test_examples(self):
        self.assertEqual(walk(STEPS, (MOVE,), HERE, [(0, 0, 1), (0, 0, 1), (1, 1, 2)], "ways"), [HERE, THERE, THERE, THERE])
        self.assertEqual(
            [step_by(STEPS, (MOVE,), THERE, (1, 0, 2), "ways"), matrix(STEPS, (MOVE,), (2, 2), "even"), matrix(STEPS, (MOVE,), (2, 2), "ways")],
            [HERE, (((1, 2), (1, 2)), ((1, 2), (1, 2))), (((1, 2), (1, 2)), ((1, 4), (3, 4)))])

    def test_steps_and_walks(self):
        draw = random.Random(1)
        gone = {True: 0, False: 0}
        for frame, book, table, _ in random_books(1, 300):
            if not book:
                continue
            draws = []
            for _ in range(draw.randint(0, 12)):
                c = draw.randint(1, 12)
                draws.append((draw.randrange(2 * len(book)), draw.randrange(c), c))
            for kind in ("even", "ways"):
                wanted = [table]
                for one in draws:
                    wanted.append(step_plainly(book, wanted[-1], one, kind))
                    self.assertEqual(step_by(frame, book, wanted[-2], one, kind), wanted[-1])
                    gone[wanted[-1] != wanted[-2]] += 1
                self.assertEqual(walk(frame, book, table, draws, kind), wanted)
                self.assertEqual(walk(kind=kind, draws=tuple(draws), table=table, book=book, frame=frame), wanted)
        self.assertGreater(min(gone.values()), 200)

    def test_just_so_many_draws_go(self):
        # Of all b below c, c a multiple of what is wanted, the chance is the share of those that go.
        for c in (4, 8, 12):
            self.assertEqual(sum(step_by(STEPS, (MOVE,), THERE, (1, b, c), "ways") == HERE for b in range(c)), c // 2)
            self.assertEqual(sum(step_by(STEPS, (MOVE,), HERE, (0, b, c), "ways") == THERE for b in range(c)), c)
            self.assertEqual(sum(step_by(STEPS, (MOVE,), THERE, (1, b, c), "even") == HERE for b in range(c)), c)
        self.assertEqual(step_by(STEPS, (MOVE,), THERE, (0, 0, 1), "even"), THERE)

    def test_400_draws_and_more(self):
        draws = [(0, 0, 1), (1, 0, 1)] * 200
        self.assertEqual(len(walk(PAIR, ONE_UP, (5, 5), draws, "even")), 401)
        good = {"frame": PAIR, "book": ONE_UP, "table": (5, 5), "draws": draws, "kind": "even"}
        self.refuses(walk, good, "draws", InvalidDraws, [draws + draws[:1]])
        self.assertEqual(walk(PAIR, ONE_UP, (5, 5), [], "ways"), [(5, 5)])

    def test_totals_of_walks(self):
        # A table with more than 120 things is weighed only where the move gives a table.
        frame, book = ("frame", ((1, 2),)), ((2, -1),)
        self.assertEqual(step_by(frame, book, (118, 1), (0, 0, 1), "ways"), (120, 0))
        self.assertEqual(step_by(frame, book, (118, 1), (0, 1, 119), "ways"), (118, 1))
        self.assertEqual(step_by(frame, book, (118, 2), (1, 0, 1), "ways"), (116, 3))
        self.too_many("total", 120, step_by, frame, book, (119, 1), (0, 0, 1), "ways")
        self.too_many("total", 120, step_by, frame, book, (120, 1), (1, 0, 1), "ways")
        self.assertEqual(step_by(frame, book, (121, 0), (0, 0, 1), "ways"), (121, 0))
        self.too_many("total", 120, step_by, frame, book, (121, 0), (1, 0, 1), "ways")
        self.assertEqual(step_by(frame, book, (121, 0), (1, 0, 1), "even"), (119, 1))
        self.assertEqual(walk(frame, book, (121, 0), [(0, 0, 1)] * 3, "ways"), [(121, 0)] * 4)
        self.too_many("total", 120, walk, frame, book, (121, 0), [(0, 0, 1), (1, 0, 1)], "ways")
        self.assertEqual(walk(frame, book, (116, 2), [(0, 0, 1)] * 2, "ways"), [(116, 2), (118, 1), (120, 0)])
        self.too_many("total", 120, walk, frame, book, (117, 2), [(0, 0, 1)] * 2, "ways")
        self.assertEqual(walk(PAIR, ONE_UP, (1, 119), [(0, 0, 1)], "ways"), [(1, 119), (2, 118)])
        self.too_many("total", 120, walk, PAIR, ONE_UP, (1, 120), [(0, 0, 1)], "ways")

    def test_matrices_in_fractions(self):
        several = 0
        for frame, book, table, tables in random_books(2, 250):
            if not book or len(tables) > 40:
                continue
            sums = sums_plainly(frame, table)
            for kind in ("even", "ways"):
                told = matrix(frame, book, sums, kind)
                wanted = matrix_plainly(frame, book, sums, kind)
                self.assertEqual(told, tuple(tuple(ratio_of(part) for part in row) for row in wanted))
                self.assertTrue(all(sum(row) == 1 and min(row) >= 0 for row in wanted))
            several += len(tables) > 2
        self.assertGreater(several, 40)

    def test_matrices_of_empty_and_small_lots(self):
        self.assertEqual(matrix(COINS, (MOVE,), (1, 4), "ways"), ())
        self.assertEqual(matrix(COINS, (MOVE,), (0, 0), "ways"), (((1, 1),),))
        self.assertEqual(matrix(kind="even", sums=(1, 1), book=(MOVE,), frame=COINS), (((1, 1),),))

    def test_books_without_moves(self):
        good = {"frame": COINS, "book": (), "sums": (4, 8), "kind": "even"}
        self.assertIs(type(self.error_of(matrix, good)), NoMoves)
        self.assertIs(type(self.error_of(matrix, dict(good, sums=(1, 4)), True)), NoMoves)
        good = {"frame": COINS, "book": (), "table": (0, 4, 0), "draws": [], "kind": "ways"}
        self.assertIs(type(self.error_of(walk, good)), NoMoves)
        self.refuses(walk, good, "draws", InvalidDraws, [[(0, 0, 1)]])
        self.refuses(walk, good, "kind", InvalidKind, ["way"])
        # No draw is one of a book without moves.
        self.refuses(step_by, {"frame": COINS, "book": (), "table": (0, 4, 0), "draw": None, "kind": "ways"}, "draw", InvalidDraw, [(0, 0, 1)])
        # More than 2000 tables are told ahead of a book without moves.
        self.too_many("tables", 2000, matrix, TOTAL, (), (62,), "even")
        self.assertEqual(len(lot(TOTAL, (61,))), 1953)
        self.assertIs(type(self.error_of(matrix, {"frame": TOTAL, "book": (), "sums": (61,), "kind": "even"})), NoMoves)

    def test_tables_to_40_then_totals_to_120(self):
        self.assertEqual(len(matrix(PAIR, ONE_UP, (39,), "ways")), 40)
        for kind in ("even", "ways"):
            self.too_many("tables", 40, matrix, PAIR, ONE_UP, (40,), kind)
            self.too_many("tables", 2000, matrix, PAIR, ONE_UP, (2000,), kind)
            self.too_many("tables", 40, matrix, PAIR, ONE_UP, (1999,), kind)
        double = ("frame", ((1, 9),))
        self.assertEqual(len(matrix(double, ((9, -1),), (120,), "ways")), 14)
        self.too_many("total", 120, matrix, double, ((9, -1),), (121,), "ways")
        self.assertEqual(len(matrix(double, ((9, -1),), (121,), "even")), 14)

    def test_errors(self):
        good = {"frame": COINS, "book": (MOVE,), "table": (1, 2, 1), "draw": (0, 0, 1), "kind": "ways"}
        wrongs = [("frame", None, InvalidFrame), ("book", None, InvalidBook), ("table", None, InvalidTable), ("draw", (2, 0, 1), InvalidDraw),
                  ("kind", "way", InvalidKind)]
        self.refuses(step_by, good, "frame", InvalidFrame, WRONG_FRAMES)
        self.refuses(step_by, good, "book", InvalidBook, WRONG_BOOKS)
        self.refuses(step_by, good, "table", InvalidTable, WRONG_TABLES)
        self.refuses(step_by, good, "draw", InvalidDraw, WRONG_DRAWS)
        self.refuses(step_by, good, "kind", InvalidKind, WRONG_KINDS)
        self.first_refused(step_by, good, wrongs)
        good = {"frame": COINS, "book": (MOVE,), "table": (1, 2, 1), "draws": [(0, 0, 1)], "kind": "ways"}
        wrongs[3] = ("draws", None, InvalidDraws)
        self.refuses(walk, good, "frame", InvalidFrame, WRONG_FRAMES)
        self.refuses(walk, good, "book", InvalidBook, WRONG_BOOKS)
        self.refuses(walk, good, "table", InvalidTable, WRONG_TABLES)
        self.refuses(walk, good, "draws", InvalidDraws, [[draw] for draw in WRONG_DRAWS] + [None, 1, True, "ab", Odd(), (0, 0, 1), {(0, 0, 1): 1},
                                                                                           [(0, 0, 1), None]])
        self.refuses(walk, good, "kind", InvalidKind, WRONG_KINDS)
        self.first_refused(walk, good, wrongs)
        good = {"frame": COINS, "book": (MOVE,), "sums": (4, 8), "kind": "ways"}
        self.refuses(matrix, good, "frame", InvalidFrame, WRONG_FRAMES)
        self.refuses(matrix, good, "book", InvalidBook, WRONG_BOOKS)
        self.refuses(matrix, good, "sums", InvalidSums, WRONG_SUMS)
        self.refuses(matrix, good, "kind", InvalidKind, WRONG_KINDS)
        self.first_refused(matrix, good, wrongs[:2] + [("sums", None, InvalidSums), wrongs[4]])
        self.refuses(matrix, {"frame": TOTAL, "book": (), "sums": (62,), "kind": None}, "kind", InvalidKind, [None])

    def test_arguments_stay_and_lists_are_new(self):
        self.assertIs(type(self.kept_and_new(walk, STEPS, (MOVE,), HERE, [(0, 0, 1)], "ways")), list)
        self.assertIs(type(self.kept_and_new(matrix, STEPS, (MOVE,), (2, 2), "ways")), tuple)
        book = tuple(sorted(unit_moves(16)[:60]))
        self.assertEqual(step_by(BROAD, book, (1,) * 16, (0, 0, 1), "even"), tuple(a + b for a, b in zip((1,) * 16, book[0])))
        self.assertEqual(matrix(SQUARE, ((1, -1, -1, 1),), (1, 1, 1, 1), "even"), (((1, 2), (1, 2)), ((1, 2), (1, 2))))
        self.assertIs(type(self.error_of(matrix, {"frame": HIGH, "book": (), "sums": (1,) * 16, "kind": "even"})), NoMoves)
