"""Steps, roads and distances [6], [43] to [45], [48]."""

import unittest

from sumroads.errors import InvalidBook, InvalidFrame, InvalidRoad, InvalidTable
from sumroads.moves import book_of
from sumroads.roads import are_joined, distance, is_road, moves_of_road, road, steps_from
from tests.helpers import BROAD, COINS, HIGH, Holds, Odd, TOTAL, WRONG_FRAMES, odd_values, sums_plainly
from tests.test_lots import WRONG_TABLES
from tests.test_moves import WRONG_MOVES, unit_moves
from tests.walking import distances_plainly, random_books, steps_plainly

ONE, TWO = ((1, -2, 1),), ((2, -4, 2),)
PAIR, ONE_UP = ("frame", ((1, 1),)), ((1, -1),)
WRONG_BOOKS = [(move,) for move in WRONG_MOVES] + [
    [(1, -2, 1)], ((2, -4, 2), (1, -2, 1)), ((1, -2, 1), (1, -2, 1)), None, 1, True, "", {}, Odd(), (1, -2, 1),
    tuple([(1, -2, 1)] * 61)]
LISTED = {"steps_from": steps_from, "road": road, "distance": distance, "are_joined": are_joined}


class Roads(Holds, unittest.TestCase):
    def test_examples(self):
        self.assertEqual(
            [steps_from(COINS, ONE, (1, 2, 1)), steps_from(COINS, TWO, (1, 2, 1)),
             distance(COINS, ONE, (0, 4, 0), (2, 0, 2)), distance(COINS, TWO, (0, 4, 0), (2, 0, 2)),
             distance(COINS, TWO, (0, 4, 0), (1, 2, 1)), are_joined(COINS, ONE, (0, 4, 0), (0, 0, 0))],
            [[(0, 4, 0), (2, 0, 2)], [], 2, 1, None, False])
        self.assertEqual(
            [is_road(COINS, ONE, ((0, 4, 0), (1, 2, 1), (2, 0, 2))), is_road(COINS, ONE, ((0, 4, 0), (2, 0, 2))),
             moves_of_road(COINS, ONE, ((0, 4, 0), (1, 2, 1), (0, 4, 0))), road(COINS, TWO, (0, 4, 0), (2, 0, 2))],
            [True, False, [(0, 1), (0, -1)], ((0, 4, 0), (2, 0, 2))])

    def test_steps(self):
        for frame, book, table, _ in random_books(1, 200):
            told = steps_from(frame, book, table)
            self.assertEqual(told, sorted(steps_plainly(book, table)))
            self.assertTrue(all(sums_plainly(frame, other) == sums_plainly(frame, table) for other in told))
        self.assertEqual(steps_from(TOTAL, (), (1, 1, 1)), [])
        self.assertEqual(steps_from(table=(0, 1), book=ONE_UP, frame=PAIR), [(1, 0)])
        self.assertEqual(steps_from(PAIR, ((99, -99),), (98, 98)), [])
        self.assertEqual(steps_from(PAIR, ((99, -99),), (99, 98)), [(0, 197)])
        moves = book_of(BROAD, unit_moves(16)[:60])
        self.assertEqual(len(steps_from(BROAD, moves, tuple([1] * 16))), 120)

    def held(self, frame, book, table, other, wanted):
        """A road, its moves and the distance, by the words of the document."""
        told = road(frame, book, table, other)
        self.assertIs(are_joined(frame, book, table, other), wanted is not None)
        self.assertEqual(distance(frame, book, table, other), wanted)
        if wanted is None:
            self.assertIs(told, None)
            return
        self.assertIs(type(told), tuple)
        self.assertEqual((told[0], told[-1], len(told)), (table, other, wanted + 1))
        self.assertIs(is_road(frame, book, told), True)
        self.assertIs(is_road(frame, book, told[::-1]), True)
        here = table
        for (position, sign), to in zip(moves_of_road(frame, book, told), told[1:]):
            self.assertIn(sign, (1, -1))
            here = tuple(count + sign * number for count, number in zip(here, book[position]))
            self.assertEqual(here, to)
            self.assertGreaterEqual(min(here), 0)

    def test_shortest_roads(self):
        joined, parted = 0, 0
        for frame, book, table, tables in random_books(2, 150):
            wanted = distances_plainly(book, table)
            for other in tables[:12] + [table]:
                self.held(frame, book, table, other, wanted.get(other))
                joined += other in wanted
                parted += other not in wanted
        self.assertGreater(joined, 200)
        self.assertGreater(parted, 200)

    def test_one_table_and_other_sums(self):
        self.assertEqual(road(COINS, (), (1, 2, 1), (1, 2, 1)), ((1, 2, 1),))
        self.assertEqual(distance(COINS, (), (1, 2, 1), (1, 2, 1)), 0)
        self.assertEqual(moves_of_road(COINS, (), ((1, 2, 1),)), [])
        for function, wanted in ((road, None), (distance, None), (are_joined, False)):
            self.assertIs(function(COINS, ONE, (1, 2, 1), (0, 0, 0)), wanted)
            self.assertIs(function(COINS, (), (1, 2, 1), (0, 4, 0)), wanted)
            self.assertIs(function(other=(0, 0, 1), table=(0, 0, 0), book=ONE, frame=COINS), wanted)
        self.assertEqual(road(HIGH, (), tuple(range(16)), tuple(range(16))), (tuple(range(16)),))

    def test_is_road(self):
        whole = ((0, 4, 0), (1, 2, 1), (2, 0, 2))
        self.asks(is_road, COINS, ONE, right=[whole, whole[::-1], whole[:1], whole + whole[1:2], ((0, 0, 0),)], wrong=[
            (), list(whole), (list(whole[0]), whole[1]), whole[::2], whole[:1] * 2, ((0, 4, 0), (1, 2, True)),
            ((0, 4, 0), (0, 4, 1)), ((0, 4, 0), (1, 2, 1), None), (Odd(),), ((0, 4), (1, 2)), ((0, 0, 20000),),
            ((0, 1, 0), (1, -1, 1)), whole[0], ((False, 4, 0),), (whole,)])
        self.asks(is_road, COINS, ONE, wrong=odd_values())
        self.asks(is_road, COINS, (), right=[whole[:1]], wrong=[whole[:2]])
        self.asks(is_road, COINS, TWO, right=[whole[::2]], wrong=[whole])
        self.assertIs(is_road(value=((0, 1), (1, 0)), book=ONE_UP, frame=PAIR), True)

    def test_moves_of_road(self):
        book = ((0, 1, -1), (1, -1, 0), (1, 0, -1))
        told = ((0, 0, 2), (0, 1, 1), (1, 0, 1), (0, 0, 2), (1, 0, 1), (1, 1, 0), (0, 2, 0))
        self.assertEqual(
            moves_of_road(road=told, book=book, frame=TOTAL), [(0, 1), (1, 1), (2, -1), (2, 1), (0, 1), (1, -1)])

    def test_2000_tables_and_more(self):
        told = road(PAIR, ONE_UP, (0, 1999), (1999, 0))
        self.assertEqual(told, tuple((at, 1999 - at) for at in range(2000)))
        self.assertIs(is_road(PAIR, ONE_UP, told), True)
        self.assertEqual(moves_of_road(PAIR, ONE_UP, told), [(0, 1)] * 1999)
        self.assertEqual(distance(PAIR, ONE_UP, (1999, 0), (0, 1999)), 1999)
        self.assertIs(are_joined(PAIR, ONE_UP, (1000, 999), (0, 0)), False)
        for function in (road, distance, are_joined):
            for other in ((0, 2000), (1, 1999), (2000, 0), (0, 0), (1, 1)):
                self.too_many("tables", 2000, function, PAIR, ONE_UP, (0, 2000), other)
            self.too_many("tables", 2000, function, BROAD, book_of(BROAD, unit_moves(16)[:60]),
                          tuple([20] * 16), tuple([20] * 16))
        self.assertIs(are_joined(PAIR, ((2, -2),), (0, 3998), (3998, 0)), True)
        self.too_many("tables", 2000, are_joined, PAIR, ((2, -2),), (0, 4000), (1, 3999))
        self.assertEqual(distance(PAIR, ONE_UP, (0, 0), (0, 2000)), None)

    def test_errors(self):
        for name, function in LISTED.items():
            good = {"frame": COINS, "book": ONE, "table": (1, 2, 1)}
            wrongs = [("frame", None, InvalidFrame), ("book", None, InvalidBook), ("table", None, InvalidTable)]
            if name != "steps_from":
                good["other"] = (0, 4, 0)
                wrongs.append(("other", None, InvalidTable))
                self.refuses(function, good, "other", InvalidTable, WRONG_TABLES)
            self.refuses(function, good, "frame", InvalidFrame, WRONG_FRAMES)
            self.refuses(function, good, "book", InvalidBook, WRONG_BOOKS)
            self.refuses(function, good, "table", InvalidTable, WRONG_TABLES)
            self.first_refused(function, good, wrongs)
        good = {"frame": COINS, "book": ONE, "road": ((1, 2, 1),)}
        self.refuses(moves_of_road, good, "frame", InvalidFrame, WRONG_FRAMES)
        self.refuses(moves_of_road, good, "book", InvalidBook, WRONG_BOOKS)
        self.refuses(moves_of_road, good, "road", InvalidRoad, [
            (), [(1, 2, 1)], (1, 2, 1), ((1, 2, 1), (1, 2, 1)), None, 1, Odd(), (Odd(),), ((1, 2, True),)])
        self.first_refused(moves_of_road, good, [
            ("frame", None, InvalidFrame), ("book", None, InvalidBook), ("road", None, InvalidRoad)])
        good = {"frame": COINS, "book": ONE, "value": ()}
        self.refuses(is_road, good, "frame", InvalidFrame, WRONG_FRAMES)
        self.refuses(is_road, good, "book", InvalidBook, WRONG_BOOKS)

    def test_a_wrong_table_comes_ahead_of_too_many(self):
        good = {"frame": PAIR, "book": ONE_UP, "table": (0, 2000), "other": (0, 1)}
        for function in (road, distance, are_joined):
            self.refuses(function, good, "other", InvalidTable, [(0, True), None])

    def test_arguments_stay_and_lists_are_new(self):
        self.kept_and_new(steps_from, COINS, ONE, (1, 2, 1))
        self.kept_and_new(steps_from, COINS, (), (1, 2, 1))
        self.kept_and_new(road, COINS, ONE, (0, 4, 0), (2, 0, 2))
        self.kept_and_new(moves_of_road, COINS, ONE, ((0, 4, 0), (1, 2, 1)))
