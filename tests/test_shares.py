"""Shares [144] to [146], held against fractions and the plain matrix."""

import math
import random
import unittest
from fractions import Fraction

from sumroads.closedlots import parts_of_lot
from sumroads.errors import InvalidBook, InvalidFrame, InvalidKind, InvalidMany, InvalidShares, InvalidSums, InvalidTable, NoMoves, NoTables
from sumroads.shares import is_kept, is_shares, part_shares, share_at_most, shares_behind, weighed_shares
from tests.helpers import COINS, Holds, Odd, SQUARE, TOTAL, WRONG_FRAMES, lot_plainly, odd_values, sums_plainly
from tests.test_draws import HERE, MOVE, THERE, WRONG_KINDS
from tests.test_elimination import STEPS
from tests.test_lots import WRONG_SUMS, WRONG_TABLES, cases
from tests.test_roads import WRONG_BOOKS
from tests.walkers import behind_plainly, fraction_of, matrix_plainly, ratio_of, weight_plainly
from tests.walking import distances_plainly, random_books

PAIR, ONE_UP = ("frame", ((1, 1),)), ((1, -1),)
DOUBLE, NINE = ("frame", ((1, 9),)), ((9, -1),)
WRONG_SHARES = [
    ((1, 2), (1, 2), (1, 2)), ((1, 1),), ((1, 1), (0, 1), (0, 1), (0, 1)), [(1, 1), (0, 1), (0, 1)], ((1, 1), [0, 1], (0, 1)),
    ((2, 2), (0, 1), (0, 1)), ((1, 1), (0, 2), (0, 1)), ((3, 2), (-1, 2), (0, 1)), ((1, 2), (1, 4), (1, 3)), ((-1, -1), (0, 1), (0, 1)),
    ((True, 1), (0, 1), (0, 1)), ((1, True), (0, 1), (0, 1)), ((1, 1), (False, 1), (0, 1)), ((1, 1, 1), (0, 1), (0, 1)), ((1,), (0, 1), (0, 1)),
    (1, 0, 0), ((1, 0), (0, 1), (0, 1)), (), None, 1, True, "abc", Odd(), (Odd(), (0, 1), (0, 1)), ((1, Odd()), (0, 1), (0, 1)),
    ((0, 1), (0, 1), (0, 1))]


def random_shares(draw, many):
    numbers = [draw.choice([0, 1, 1, 2, 5, 7]) for _ in range(many)]
    numbers[draw.randrange(many)] += 1
    return tuple(ratio_of(Fraction(number, sum(numbers))) for number in numbers)


def lots_and_books(seed, many):
    """Tuples (frame, book with moves, sums, tables of a lot of few tables)."""
    for frame, book, table, tables in random_books(seed, many):
        if book and len(tables) <= 12:
            yield frame, book, sums_plainly(frame, table), tables


class Shares(Holds, unittest.TestCase):
    def test_examples(self):
        third = weighed_shares(STEPS, (2, 2), "ways")
        self.assertEqual(
            [third, is_kept(STEPS, (MOVE,), (2, 2), "ways", third), is_kept(STEPS, (MOVE,), (2, 2), "ways", ((1, 2), (1, 2))),
             is_shares(STEPS, (2, 2), ((1, 1),)), share_at_most(STEPS, HERE, "ways"), share_at_most(STEPS, THERE, "ways")],
            [((1, 3), (2, 3)), True, False, False, (1, 3), (1, 1)])
        self.assertEqual(
            [shares_behind(STEPS, (MOVE,), (2, 2), "ways", ((1, 1), (0, 1)), 2), part_shares(STEPS, (), (2, 2), "even")],
            [((3, 8), (5, 8)), [((1, 1), (0, 1)), ((0, 1), (1, 1))]])

    def test_weighed_shares(self):
        empty = 0
        for frame, sums, tables in cases(1, 120):
            for kind in ("even", "ways"):
                if len(tables) > 2000:
                    self.too_many("tables", 2000, weighed_shares, frame, sums, kind)
                    continue
                if not tables:
                    empty += 1
                    self.assertIs(type(self.error_of(weighed_shares, {"frame": frame, "sums": sums, "kind": kind}, True)), NoTables)
                    continue
                weights = [weight_plainly(kind, table) for table in tables]
                told = weighed_shares(frame, sums, kind)
                self.assertEqual(told, tuple(ratio_of(Fraction(weight, sum(weights))) for weight in weights))
                self.assertIs(is_shares(frame, sums, told), True)
        self.assertGreater(empty, 20)

    def test_shares_behind_0_to_12_steps(self):
        draw = random.Random(2)
        for frame, book, sums, tables in lots_and_books(2, 60):
            for kind in ("even", "ways"):
                rows = matrix_plainly(frame, book, sums, kind)
                shares = random_shares(draw, len(tables))
                wanted = [fraction_of(part) for part in shares]
                for many in range(13):
                    if many in (0, 1, 2, 5, 12):
                        told = shares_behind(frame, book, sums, kind, shares, many)
                        self.assertEqual(told, tuple(ratio_of(part) for part in wanted))
                        self.assertIs(is_shares(frame, sums, told), True)
                    wanted = behind_plainly(rows, wanted)
        self.assertEqual(shares_behind(many=1, shares=((1, 1), (0, 1)), kind="even", sums=(2, 2), book=(MOVE,), frame=STEPS), ((1, 2), (1, 2)))

    def test_kept_by_the_plain_matrix(self):
        draw = random.Random(3)
        told = {True: 0, False: 0}
        for frame, book, sums, tables in lots_and_books(3, 200):
            for kind in ("even", "ways"):
                rows = matrix_plainly(frame, book, sums, kind)
                parts = part_shares(frame, book, sums, kind)
                mix = random_shares(draw, len(parts))
                mixed = tuple(ratio_of(sum(fraction_of(by) * fraction_of(part[at]) for by, part in zip(mix, parts))) for at in range(len(tables)))
                other = random_shares(draw, len(tables))
                for shares in [weighed_shares(frame, sums, kind), mixed, other] + parts:
                    fractions = [fraction_of(part) for part in shares]
                    wanted = behind_plainly(rows, fractions) == fractions
                    self.assertIs(is_kept(frame, book, sums, kind, shares), wanted)
                    self.assertTrue(wanted or shares == other)
                    told[wanted] += 1
        self.assertGreater(min(told.values()), 60)

    def test_parts_in_their_sequence(self):
        several = 0
        for frame, book, table, tables in random_books(4, 120):
            sums = sums_plainly(frame, table)
            for kind in ("even", "ways"):
                told = part_shares(frame, book, sums, kind)
                parts = sorted({tuple(sorted(distances_plainly(book, one))) for one in tables})
                self.assertEqual([list(part) for part in parts], parts_of_lot(frame, book, sums))
                wanted = []
                for part in parts:
                    whole = sum(weight_plainly(kind, one) for one in part)
                    wanted.append(tuple(ratio_of(Fraction(weight_plainly(kind, one) if one in part else 0, whole)) for one in tables))
                self.assertEqual(told, wanted)
                several += len(told) > 1
        self.assertGreater(several, 30)
        self.assertEqual(part_shares(COINS, (), (1, 4), "ways"), [])
        self.assertEqual(part_shares(kind="even", sums=(1, 4), book=(MOVE,), frame=COINS), [])
        self.assertEqual(part_shares(COINS, (), (4, 8), "ways"), [((1, 1), (0, 1), (0, 1)), ((0, 1), (1, 1), (0, 1)), ((0, 1), (0, 1), (1, 1))])

    def test_share_at_most(self):
        for frame, _, table, tables in random_books(5, 200):
            for kind in ("even", "ways"):
                weights = [weight_plainly(kind, other) for other in tables]
                least = [weight for weight in weights if weight <= weight_plainly(kind, table)]
                self.assertEqual(share_at_most(frame, table, kind), ratio_of(Fraction(sum(least), sum(weights))))
        self.assertEqual(share_at_most(kind="even", table=HERE, frame=STEPS), (1, 1))

    def test_is_shares(self):
        good = ((1, 2), (1, 3), (1, 6))
        self.asks(is_shares, COINS, (4, 8), right=[good, ((0, 1), (1, 1), (0, 1)), ((1, 3),) * 3], wrong=WRONG_SHARES + odd_values())
        self.asks(is_shares, COINS, (1, 4), wrong=[(), ((1, 1),), None] + odd_values())
        self.assertIs(is_shares(value=((1, 1),), sums=(0, 0), frame=COINS), True)
        prime = 10 ** 9 + 7
        self.asks(is_shares, COINS, (4, 8), right=[((1, prime), (prime - 2, prime), (1, prime))], wrong=[((1, prime), (prime - 1, prime), (1, prime))])
        # Many unlike numbers under the parts: each step from 1 to 2000 by 1 / (k (k + 1)), the rest last.
        line = tuple((1, k * (k + 1)) for k in range(1, 1953)) + ((1, 1953),)
        self.assertIs(is_shares(TOTAL, (61,), line), True)
        self.assertIs(is_shares(TOTAL, (61,), line[:-1] + ((1, 1954),)), False)

    def test_books_without_moves(self):
        good = {"frame": COINS, "book": (), "sums": (4, 8), "kind": "ways", "shares": ((1, 1), (0, 1), (0, 1))}
        self.assertIs(type(self.error_of(is_kept, good)), NoMoves)
        self.assertIs(type(self.error_of(shares_behind, dict(good, many=0), True)), NoMoves)
        self.refuses(is_kept, good, "shares", InvalidShares, WRONG_SHARES[:2])
        self.refuses(shares_behind, dict(good, many=0), "many", InvalidMany, [13])

    def test_empty_lots(self):
        good = {"frame": COINS, "book": (MOVE,), "sums": (1, 4), "kind": "ways", "shares": ()}
        self.refuses(is_kept, good, "shares", InvalidShares, [(), ((1, 1),)])
        self.refuses(shares_behind, dict(good, many=1), "shares", InvalidShares, [(), ((1, 1),)])

    def test_2000_tables_and_more(self):
        within, beyond = (1999,), (2000,)
        self.assertEqual(weighed_shares(PAIR, within, "even"), ((1, 2000),) * 2000)
        self.too_many("tables", 2000, weighed_shares, PAIR, beyond, "even")
        self.too_many("tables", 2000, weighed_shares, PAIR, beyond, "ways")
        self.assertIs(is_shares(PAIR, within, ((1, 2000),) * 2000), True)
        self.too_many("tables", 2000, is_shares, PAIR, beyond, None)
        self.assertIs(is_kept(PAIR, ONE_UP, within, "even", ((1, 2000),) * 2000), True)
        self.too_many("tables", 2000, is_kept, PAIR, (), beyond, "even", None)
        self.too_many("tables", 2000, shares_behind, PAIR, (), beyond, "even", None, None)
        self.assertEqual(part_shares(PAIR, ONE_UP, within, "even"), [((1, 2000),) * 2000])
        self.too_many("tables", 2000, part_shares, PAIR, (), beyond, "even")
        self.assertEqual(share_at_most(PAIR, (0, 1999), "even"), (1, 1))
        self.too_many("tables", 2000, share_at_most, PAIR, (0, 2000), "even")

    def test_40_tables_of_a_matrix_and_more(self):
        shares = ((1, 1),) + ((0, 1),) * 39
        self.assertEqual(shares_behind(PAIR, ONE_UP, (39,), "even", shares, 1), ((1, 2), (1, 2)) + ((0, 1),) * 38)
        for kind in ("even", "ways"):
            self.too_many("tables", 40, shares_behind, PAIR, ONE_UP, (40,), kind, shares + ((0, 1),), 0)
        self.too_many("tables", 40, shares_behind, PAIR, ONE_UP, (130,), "ways", ((1, 1),) + ((0, 1),) * 130, 1)
        self.assertIs(is_kept(PAIR, ONE_UP, (40,), "even", shares + ((0, 1),)), False)

    def test_totals_to_120_and_more(self):
        for sums, total in (((120,), 120), ((121,), 121)):
            tables = lot_plainly(DOUBLE, sums)
            shares = ((1, 1),) + ((0, 1),) * (len(tables) - 1)
            calls = [(weighed_shares, DOUBLE, sums), (is_kept, DOUBLE, NINE, sums), (shares_behind, DOUBLE, NINE, sums), (part_shares, DOUBLE, NINE, sums),
                     (share_at_most, DOUBLE, tables[0])]
            for function, *told in calls:
                more = [shares] if function is is_kept else [shares, 1] if function is shares_behind else []
                function(*told, "even", *more)
                if total == 120:
                    function(*told, "ways", *more)
                else:
                    self.too_many("total", 120, function, *told, "ways", *more)
        self.assertEqual(weighed_shares(DOUBLE, (120,), "ways")[-1], ratio_of(Fraction(1, sum(
            weight_plainly("ways", table) for table in lot_plainly(DOUBLE, (120,))))))
        self.assertEqual(share_at_most(PAIR, (60, 60), "ways"), (1, 1))
        self.assertEqual(share_at_most(PAIR, (0, 120), "ways"), ratio_of(Fraction(2, 2 ** 120)))
        self.assertEqual(weighed_shares(PAIR, (120,), "ways")[60], ratio_of(Fraction(math.comb(120, 60), 2 ** 120)))

    def test_errors(self):
        good = {"frame": COINS, "book": (MOVE,), "sums": (4, 8), "kind": "ways", "shares": ((1, 1), (0, 1), (0, 1)), "many": 2}
        wrongs = [("frame", None, InvalidFrame), ("book", None, InvalidBook), ("sums", None, InvalidSums), ("kind", "way", InvalidKind),
                  ("shares", ((1, 1),), InvalidShares), ("many", 13, InvalidMany)]
        lists = {"frame": WRONG_FRAMES, "book": WRONG_BOOKS, "sums": WRONG_SUMS, "kind": WRONG_KINDS, "shares": WRONG_SHARES,
                 "many": [-1, 13, True, False, None, "1", (1,), Odd()]}
        for function, names in ((shares_behind, list(good)), (is_kept, list(good)[:5]), (part_shares, list(good)[:4]),
                                (weighed_shares, ["frame", "sums", "kind"])):
            told = {name: good[name] for name in names}
            for name, _, error in wrongs:
                if name in names:
                    self.refuses(function, told, name, error, lists[name])
            self.first_refused(function, told, [wrong for wrong in wrongs if wrong[0] in names])
        told = {"frame": COINS, "sums": (4, 8), "value": None}
        self.refuses(is_shares, told, "frame", InvalidFrame, WRONG_FRAMES)
        self.refuses(is_shares, told, "sums", InvalidSums, WRONG_SUMS)
        self.first_refused(is_shares, told, [wrongs[0], wrongs[2]])
        told = {"frame": COINS, "table": (0, 4, 0), "kind": "even"}
        self.refuses(share_at_most, told, "frame", InvalidFrame, WRONG_FRAMES)
        self.refuses(share_at_most, told, "table", InvalidTable, WRONG_TABLES)
        self.refuses(share_at_most, told, "kind", InvalidKind, WRONG_KINDS)
        self.first_refused(share_at_most, told, [wrongs[0], ("table", None, InvalidTable), wrongs[3]])
        self.refuses(weighed_shares, {"frame": PAIR, "sums": (2000,), "kind": ""}, "kind", InvalidKind, [""])

    def test_arguments_stay_and_lists_are_new(self):
        third = ((1, 3), (2, 3))
        self.assertIs(type(self.kept_and_new(part_shares, STEPS, (MOVE,), (2, 2), "ways")), list)
        self.assertIs(type(self.kept_and_new(weighed_shares, STEPS, (2, 2), "ways")), tuple)
        self.assertIs(type(self.kept_and_new(shares_behind, STEPS, (MOVE,), (2, 2), "ways", third, 3)), tuple)
        self.assertIs(self.kept_and_new(is_kept, STEPS, (MOVE,), (2, 2), "ways", third), True)
        self.assertEqual(weighed_shares(SQUARE, (1, 1, 1, 1), "ways"), ((1, 2), (1, 2)))
