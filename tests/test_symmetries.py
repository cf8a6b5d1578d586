"""Exchanges, symmetries, groups [151] to [154], held against trial of all exchanges."""

import itertools
import random
import unittest

from sumroads.errors import InvalidExchange, InvalidExchanges, InvalidFrame, InvalidRow
from sumroads.kernels import basis
from sumroads.symmetries import back_of, done_after, group, is_exchange, is_symmetry, led, symmetries
from tests.helpers import BROAD, COINS, HIGH, Holds, Odd, SQUARE, TOTAL, WRONG_FRAMES, odd_values, sums_plainly
from tests.test_elimination import small_frames

WRONG_EXCHANGES = [
    (), (0, 0), (1, 2), (0, 2), (-1, 0), [1, 0], (True, 0), (1, False), (0, None), (0, "1"), (0, Odd()), None, True, 0, "01", Odd(),
    tuple(range(17)), (0, 1, 1), {0: 1}, range(3)]


def led_plainly(exchange, row):
    return tuple(row[exchange.index(cell)] for cell in range(len(row)))


def is_symmetry_plainly(frame, exchange):
    return all(not any(sums_plainly(frame, led_plainly(exchange, row))) for row in basis(frame))


def group_plainly(cells, exchanges):
    """The least set with the idle one that no exchange leads out of."""
    found = {tuple(range(cells))}
    while True:
        more = {tuple(after[to] for to in one) for one in found for after in exchanges} - found
        if not more:
            return sorted(found)
        found |= more


def cells_exchanged(cells, *pairs):
    """The exchange of so many cells that leads these to those."""
    made = list(range(cells))
    for one, other in pairs:
        made[one] = other
    return tuple(made)


def ring_of(cells, first, many):
    """The exchange of so many cells that leads each of some neighbouring ones to the next, the last to the first."""
    return cells_exchanged(cells, *[(first + at, first + (at + 1) % many) for at in range(many)])


def ring_back(cells, first, many):
    """The one that turns such a ring over."""
    return cells_exchanged(cells, *[(first + at, first + (-at) % many) for at in range(many)])


def rings(cells, *sizes):
    """Exchanges whose group turns rings of these sizes, each by itself, round and over."""
    found, first = [], 0
    for size in sizes:
        found += [ring_of(cells, first, size), ring_back(cells, first, size)]
        first += size
    return found


JUST_1000 = rings(16, 5, 5, 5)
JUST_1008 = rings(16, 7, 3, 3) + [cells_exchanged(16, (14, 15), (15, 14))]


class Symmetries(Holds, unittest.TestCase):
    def test_examples(self):
        self.assertEqual(
            [led((1, 2, 0), (5, 6, 7)), done_after((1, 2, 0), (0, 2, 1)), back_of((1, 2, 0)), is_exchange((0, 0)), symmetries(COINS),
             is_symmetry(COINS, (1, 0, 2))], [(7, 5, 6), (2, 1, 0), (2, 0, 1), False, [(0, 1, 2), (2, 1, 0)], False])
        self.assertEqual(
            [len(symmetries(SQUARE)), is_symmetry(SQUARE, (0, 2, 1, 3)), is_symmetry(SQUARE, (1, 2, 3, 0)), group(SQUARE, [(1, 0, 3, 2)])],
            [8, True, False, [(0, 1, 2, 3), (1, 0, 3, 2)]])

    def test_exchanges(self):
        self.asks(is_exchange, right=[(0,), (1, 0), tuple(range(16)), tuple(range(16))[::-1]], wrong=WRONG_EXCHANGES + odd_values())
        for value in itertools.product(range(4), repeat=3):
            self.assertIs(is_exchange(value), sorted(value) == [0, 1, 2])
        draw = random.Random(1)
        for _ in range(200):
            cells = draw.randint(1, 16)
            one, other = [tuple(draw.sample(range(cells), cells)) for _ in range(2)]
            row = tuple(draw.randint(-10 ** 6, 10 ** 6) for _ in range(cells))
            self.assertEqual(led(one, row), led_plainly(one, row))
            self.assertEqual(led(done_after(one, other), row), led(other, led(one, row)))
            self.assertEqual(led(back_of(one), led(one, row)), row)
            self.assertEqual(done_after(one, back_of(one)), tuple(range(cells)))
        self.assertEqual(led(row=(5, 6), exchange=(1, 0)), (6, 5))
        self.assertEqual(done_after(after=(0, 1), exchange=(1, 0)), (1, 0))
        self.assertEqual(back_of(exchange=(0,)), (0,))

    def test_symmetries_by_trial_of_all_exchanges(self):
        many = 0
        for _, frame in small_frames(2, 120, 5, 3, 2):
            cells = len(frame[1][0])
            wanted = [exchange for exchange in itertools.permutations(range(cells)) if is_symmetry_plainly(frame, exchange)]
            self.assertEqual(symmetries(frame), wanted)
            for exchange in itertools.permutations(range(cells)):
                self.assertIs(is_symmetry(frame, exchange), exchange in wanted)
            many += 1 < len(wanted)
        self.assertGreater(many, 40)

    def test_cells_to_six_and_more(self):
        six = ("frame", ((1,) * 6,))
        self.assertEqual(symmetries(six), list(itertools.permutations(range(6))))
        self.assertEqual(len(symmetries(frame=("frame", ((1, 1, 1, 0, 0, 0), (0, 0, 0, 1, 1, 1), (1, 0, 0, 1, 0, 0), (0, 1, 0, 0, 1, 0))))), 12)
        for cells in (7, 16):
            self.too_many("cells", 6, symmetries, ("frame", ((1,) * cells,)))
        self.too_many("cells", 6, symmetries, HIGH)

    def test_is_symmetry_of_any_value(self):
        self.asks(is_symmetry, BROAD, right=[tuple(range(16))[::-1], ring_of(16, 0, 16)], wrong=[(0, 1), tuple(range(15))])
        self.asks(is_symmetry, COINS, right=[(0, 1, 2), (2, 1, 0)], wrong=WRONG_EXCHANGES + [[2, 1, 0], (2, True, 0), (0, 1), (0, 1, 2, 3)])
        self.asks(is_symmetry, COINS, wrong=odd_values())
        # Without changes all exchanges are symmetries, whatever the rows are.
        self.assertIs(is_symmetry(value=(1, 0), frame=("frame", ((1, 0), (0, 9)))), True)

    def test_groups(self):
        draw = random.Random(3)
        for _, frame in small_frames(3, 80, 5, 2, 2):
            all_of_them = symmetries(frame)
            some = [draw.choice(all_of_them) for _ in range(draw.randint(0, 3))]
            told = group(frame, some)
            self.assertEqual(told, group_plainly(len(frame[1][0]), some))
            self.assertTrue(set(told) <= set(all_of_them))
            self.assertTrue(all(back_of(exchange) in told for exchange in told))
            self.assertEqual(group(exchanges=tuple(some), frame=frame), told)
        self.assertEqual(group(TOTAL, []), [(0, 1, 2)])
        self.assertEqual(len(group(TOTAL, [(1, 0, 2), (1, 2, 0)] * 10)), 6)

    def test_1000_symmetries_and_more(self):
        told = group(BROAD, JUST_1000)
        self.assertEqual((len(told), told), (1000, sorted(set(told))))
        self.assertEqual(len(group_plainly(16, JUST_1008)), 1008)
        self.too_many("symmetries", 1000, group, BROAD, JUST_1008)
        self.too_many("symmetries", 1000, group, BROAD, [ring_of(16, 0, 16), cells_exchanged(16, (0, 1), (1, 0))])
        self.assertEqual(len(group(BROAD, JUST_1008[:-1])), 504)

    def test_errors(self):
        good = {"exchange": (1, 0), "row": (5, 6)}
        self.refuses(led, good, "exchange", InvalidExchange, WRONG_EXCHANGES)
        self.refuses(led, good, "row", InvalidRow, [
            (5,), (5, 6, 7), [5, 6], (5, True), (False, 6), (5, 10 ** 6 + 1), (-10 ** 6 - 1, 0), (), None, 1, True, "56", Odd(), (Odd(), 1)])
        self.first_refused(led, good, [("exchange", (0, 0), InvalidExchange), ("row", (5,), InvalidRow)])
        good = {"exchange": (1, 0), "after": (0, 1)}
        self.refuses(done_after, good, "exchange", InvalidExchange, WRONG_EXCHANGES)
        self.refuses(done_after, good, "after", InvalidExchange, WRONG_EXCHANGES + [(0,), (2, 1, 0)])
        self.first_refused(done_after, good, [("exchange", (0, 0), InvalidExchange), ("after", (0,), InvalidExchange)])
        self.refuses(back_of, {"exchange": (1, 0)}, "exchange", InvalidExchange, WRONG_EXCHANGES)
        self.refuses(is_symmetry, {"frame": COINS, "value": ()}, "frame", InvalidFrame, WRONG_FRAMES)
        self.refuses(symmetries, {"frame": COINS}, "frame", InvalidFrame, WRONG_FRAMES)
        good = {"frame": COINS, "exchanges": [(2, 1, 0)]}
        self.refuses(group, good, "frame", InvalidFrame, WRONG_FRAMES)
        self.refuses(group, good, "exchanges", InvalidExchanges, WRONG_LISTS)
        self.first_refused(group, good, [("frame", None, InvalidFrame), ("exchanges", None, InvalidExchanges)])
        self.assertEqual(len(group(COINS, [(2, 1, 0)] * 20)), 2)

    def test_arguments_stay_and_lists_are_new(self):
        self.assertIs(type(self.kept_and_new(symmetries, SQUARE)), list)
        self.assertIs(type(self.kept_and_new(group, SQUARE, [(1, 0, 3, 2)])), list)
        for function, told in ((led, ((1, 0), (5, 6))), (done_after, ((1, 0), (0, 1))), (back_of, ((1, 0),))):
            self.assertIs(type(self.kept_and_new(function, *told)), tuple)


WRONG_LISTS = [
    [(1, 0, 2)], [(2, 1, 0), (1, 2, 0)], [(2, 1, 0), [0, 1, 2]], [(2, True, 0)], [(0, 1)], [None], [Odd()], [(2, 1, 0)] * 21, (2, 1, 0), None, True, 1,
    "210", Odd(), {(2, 1, 0): 1}]
