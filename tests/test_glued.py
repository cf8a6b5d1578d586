"""Cuts, exchanges, formula books [123] to [127], held against trial of all pairs of cells and walks."""

import itertools
import unittest

from sumroads.deciding import is_whole_book
from sumroads.errors import HasHole, HasVoids, InvalidCut, InvalidModel, NotFitted
from sumroads.frames import frame_of
from sumroads.glued import cuts, exchanges, formula_book, is_cut
from sumroads.holes import hole, sequence
from sumroads.models import places_of
from sumroads.moves import is_book, is_move
from sumroads.webs import is_fitted
from tests.helpers import Holds, Odd, lot_plainly, odd_values, sums_plainly
from tests.test_models import CUBE, FOUR, SQUARE, WRONG_MODELS
from tests.test_webs import APART, LINE, RING, ROW, STAR, WITH_STRING, is_close_plainly, models, ties_plainly
from tests.walking import distances_plainly

FLAT = ("model", ROW[1][:2], (), ((0,), (1,)))


def sized(told, *sizes):
    return ("model", tuple((chr(97 + at), tuple("uvwxyz"[:size])) for at, size in enumerate(sizes)), (), tuple(told))


def is_cut_plainly(model, cut):
    between, near, far = cut
    if sorted(between + near + far) != list(range(len(model[1]))) or not near or not far:
        return False
    ties = ties_plainly(model)
    return is_close_plainly(model, between) and not any((one, other) in ties for one in near for other in far)


def threes(model):
    """All ways to lay the names in three rising tuples."""
    names = range(len(model[1]))
    for places in itertools.product(range(3), repeat=len(model[1])):
        yield tuple(tuple(name for name in names if places[name] == place) for place in range(3))


def exchanges_plainly(model, cut):
    """By trial of all pairs of cells: those that are alike between, unlike near and far."""
    cells = places_of(model)
    pick = [lambda place, names=names: tuple(place[name] for name in names) for names in cut]
    found = set()
    for one, other in itertools.combinations(cells, 2):
        if pick[0](one) != pick[0](other) or pick[1](one) == pick[1](other) or pick[2](one) == pick[2](other):
            continue
        least, most = sorted((one, other), key=pick[1])
        if pick[2](least) > pick[2](most):
            continue
        row = [0] * len(cells)
        for place, near, far, number in ((one, one, one, 1), (other, other, other, 1), (one, one, other, -1), (other, other, one, -1)):
            made = list(place)
            for name in cut[1]:
                made[name] = near[name]
            for name in cut[2]:
                made[name] = far[name]
            row[cells.index(tuple(made))] += number
        found.add(tuple(row))
    return sorted(found)


def cuts_plainly(model):
    """The cuts of the sequence, by the words of [125]."""
    order, ties = sequence(model), ties_plainly(model)
    found = []
    for at, name in enumerate(order):
        later = order[at + 1:]
        between = {other for other in later if (name, other) in ties}
        near, far = {name}, set(later) - between
        if far:
            for place in range(at - 1, -1, -1):
                those = {other for other in order[place + 1:] if (order[place], other) in ties}
                (far if those & far else near).add(order[place])
            found.append(tuple(tuple(sorted(lot)) for lot in (between, near, far)))
    return found


class Glued(Holds, unittest.TestCase):
    def test_examples(self):
        self.assertEqual(
            [cuts(ROW), exchanges(ROW, ((1,), (0,), (2,))), cuts(FLAT), formula_book(FLAT)],
            [[((1,), (0,), (2,))], [(0, 0, 1, -1, 0, 0, -1, 1), (1, -1, 0, 0, -1, 1, 0, 0)], [((), (0,), (1,))], ((1, -1, -1, 1),)])
        self.assertEqual(
            [is_cut(ROW, ((1,), (2,), (0,))), is_cut(ROW, ((0,), (1,), (2,))), is_cut(FLAT, ((), (0, 1), ())),
             formula_book(ROW) == tuple(exchanges(ROW, cuts(ROW)[0]))], [True, False, False, True])
        self.assertIs(type(self.error_of(formula_book, {"model": RING})), HasHole)

    def test_cuts_and_exchanges_by_trial(self):
        met = {True: 0, False: 0}
        for model in models(3, 150, (1, 2, 2, 3)):
            frame = None if model[2] else self.frame_if_small(model)
            for cut in threes(model):
                told = is_cut_plainly(model, cut)
                self.assertIs(is_cut(model, cut), told)
                met[told] += 1
                if not told:
                    self.assertIs(type(self.error_of(exchanges, {"model": model, "cut": cut})), InvalidCut)
                elif model[2]:
                    self.assertIs(type(self.error_of(exchanges, {"model": model, "cut": cut})), HasVoids)
                else:
                    rows = exchanges(model, cut)
                    self.assertEqual(rows, exchanges_plainly(model, cut))
                    self.assertTrue(frame is None or all(is_move(frame, row) for row in rows))
        self.assertGreater(min(met.values()), 200)

    def frame_if_small(self, model):
        from sumroads.errors import TooMany
        try:
            return frame_of(model)
        except TooMany:
            return None

    def test_cuts_of_the_sequence(self):
        several = 0
        for model in models(4, 300):
            if hole(model) is not None:
                self.assertIs(type(self.error_of(cuts, {"model": model})), HasHole)
                continue
            told = cuts(model)
            self.assertEqual(told, cuts_plainly(model))
            self.assertTrue(all(is_cut(model, cut) for cut in told))
            several += len(told) > 1
        self.assertGreater(several, 40)
        self.assertEqual(cuts(LINE), [((1,), (0,), (2, 3)), ((2,), (0, 1), (3,))])
        self.assertEqual(cuts(STAR), [((0,), (1,), (2, 3)), ((0,), (1, 2), (3,))])
        self.assertEqual(cuts(APART), [((), (0,), (1, 2, 3)), ((), (0, 1), (2, 3)), ((), (0, 1, 2), (3,))])
        self.assertEqual(cuts(model=WITH_STRING), [((0, 2), (1,), (3,))])
        self.assertEqual(cuts(CUBE), [])
        # Name 0 follows name 1, and this one its friend 3, to far.
        self.assertEqual(cuts(("model", FOUR, (), ((0, 1), (1, 3), (2,)))), [((1,), (0,), (2, 3)), ((3,), (0, 1), (2,)), ((), (2,), (0, 1, 3))])
        # Name 0 is put to far with its friend: the name of the cut is 2, far is 3.
        self.assertEqual(cuts(("model", FOUR, (), ((0, 3), (1,), (2,)))), [((3,), (0,), (1, 2)), ((), (1,), (0, 2, 3)), ((), (1, 2), (0, 3))])

    def test_exchanges_of_more_values(self):
        model = sized([(0,), (1,)], 4, 4)
        told = exchanges(model, ((), (0,), (1,)))
        self.assertEqual(len(told), 36)
        self.assertEqual(told, exchanges_plainly(model, ((), (0,), (1,))))
        self.assertEqual(exchanges(model, ((), (1,), (0,))), exchanges_plainly(model, ((), (1,), (0,))))
        model = sized([(0, 1), (1, 2)], 2, 3, 2)
        self.assertEqual(len(exchanges(model, ((1,), (0,), (2,)))), 3)
        self.assertEqual(exchanges(cut=((1,), (2,), (0,)), model=model), exchanges_plainly(model, ((1,), (2,), (0,))))
        self.assertEqual(exchanges(sized([(0,), (1,)], 1, 4), ((), (0,), (1,))), [])

    def test_formula_books_lead_everywhere(self):
        done, several = 0, 0
        for model in models(5, 250, (1, 2, 2, 3)):
            if is_fitted(model) and hole(model) is None and self.frame_if_small(model) and len(places_of(model)) <= 9:
                told = formula_book(model)
                frame = frame_of(model)
                self.assertIs(is_book(frame, told), True)
                self.assertEqual(told, tuple(sorted({row for cut in cuts_plainly(model) for row in exchanges_plainly(model, cut)})))
                self.assertIs(is_whole_book(frame, told), True)
                self.joins_small_lots(frame, told)
                done += 1
                several += len(told) > 1
        self.assertGreater(done, 30)
        self.assertGreater(several, 5)

    def joins_small_lots(self, frame, book):
        """All tables with the same sums are joined, of tables of up to three things."""
        cells = len(frame[1][0])
        done = set()
        for things in itertools.combinations_with_replacement(range(cells), 3):
            table = tuple(things.count(cell) for cell in range(cells))
            sums = sums_plainly(frame, table)
            if sums not in done:
                done.add(sums)
                self.assertEqual(sorted(distances_plainly(book, table)), lot_plainly(frame, sums))

    def test_formula_books_of_rows_stars_and_lots_apart(self):
        for model in (LINE, STAR, ROW, sized([(0,), (1,)], 3, 3), sized([(0, 1), (1, 2)], 2, 2, 3), sized([(0, 1), (2,)], 2, 2, 2)):
            told = formula_book(model)
            self.assertIs(is_whole_book(frame_of(model), told), True)
        self.assertEqual(formula_book(CUBE), ())
        self.assertEqual(formula_book(sized([(0,)], 6)), ())

    def test_not_fitted_then_holes_then_rows_then_moves(self):
        for model in (SQUARE, RING[:3] + (((0, 1), (1, 2), (2, 3), (0, 3), (0, 2)),), ROW[:3] + (((0, 1),),), ("model", FOUR, (), ((),)),
                      RING[:2] + (((0, 0, 0, 0),), RING[3])):
            self.assertIs(type(self.error_of(formula_book, {"model": model})), NotFitted)
        self.assertIs(type(self.error_of(formula_book, {"model": RING})), HasHole)
        # A ring of 4, 2, 2 and 1 values has 8 + 4 + 2 + 4 rows, and a hole.
        ring = sized(RING[3], 4, 2, 2, 1)
        self.assertIs(type(self.error_of(formula_book, {"model": ring})), HasHole)
        self.assertIs(type(self.error_of(cuts, {"model": ring})), HasHole)
        full = sized([(0, 1)], 4, 4)
        self.assertEqual(formula_book(full), ())
        self.too_many("rows", 16, formula_book, sized([(0, 1), ()], 4, 4))
        self.assertEqual(len(cuts(sized([(0, 1), ()], 4, 4))), 0)

    def test_rows_and_moves_to_the_bounds(self):
        # 4 + 6 + 2 + 3 rows, one more of the total, 2 more of the first name.
        within = sized([(0, 1), (1, 2), (0,), (2,), ()], 2, 2, 3)
        self.assertEqual(len(frame_of(within)[1]), 16)
        self.assertEqual(len(formula_book(within)), 6)
        self.too_many("rows", 16, formula_book, sized([(0, 1), (1, 2), (0,), (1,), (2,), ()], 2, 2, 3))
        # By trial: no fitted model has from 57 to 63 exchanges.
        for told, sizes, many in (([(1,), (2,), (0, 3)], (1, 2, 2, 4), 52), ([(0,), (2,), (1, 3)], (2, 2, 2, 2), 56)):
            self.assertEqual(len(formula_book(sized(told, *sizes))), many)
        self.too_many("moves", 60, formula_book, sized([(1,), (3,), (0, 2)], 2, 2, 1, 4))
        self.too_many("moves", 60, formula_book, APART)

    def test_errors(self):
        for function in (cuts, formula_book):
            self.refuses(function, {"model": ROW}, "model", InvalidModel, WRONG_MODELS)
        self.refuses(is_cut, {"model": ROW, "value": ()}, "model", InvalidModel, WRONG_MODELS)
        good = {"model": ROW, "cut": ((1,), (0,), (2,))}
        wrong = [((1,), (0,)), [(1,), (0,), (2,)], ((1,), [0], (2,)), ((1,), (0,), ()), ((1,), (), (0, 2)), ((0,), (1,), (2,)),
                 ((), (0, 1), (2,)), ((1, 1), (0,), (2,)), ((1,), (0,), (2, 1)), ((1,), (0,), (3,)), ((True,), (0,), (2,)),
                 ((1,), (False,), (2,)), ((1,), (0,), (2,), ()), ((0, 2), (1,), ()), None, 1, True, "abc", Odd(), (Odd(), (0,), (2,)),
                 ((1,), (Odd(),), (2,)), ((1,), (None,), (2,)), ((1,), (0,), (-1,))]
        self.refuses(exchanges, good, "model", InvalidModel, WRONG_MODELS)
        self.refuses(exchanges, good, "cut", InvalidCut, wrong)
        self.first_refused(exchanges, good, [("model", None, InvalidModel), ("cut", (), InvalidCut)])
        self.asks(is_cut, ROW, right=[((1,), (0,), (2,)), ((1,), (2,), (0,))], wrong=wrong + odd_values())
        apart = ("model", FOUR, (), ((),))
        self.asks(is_cut, apart, right=[((), (0, 2), (1, 3)), ((3,), (1,), (0, 2))], wrong=[((), (2, 0), (1, 3)), ((0, 1), (2,), (3,))])
        with_void = SQUARE
        self.refuses(exchanges, {"model": with_void, "cut": 0}, "cut", InvalidCut, [((), (0, 1), ())])
        self.assertIs(type(self.error_of(exchanges, {"model": with_void, "cut": ((), (0,), (1,))}, True)), HasVoids)
        self.assertIs(is_cut(value=((), (0,), (1,)), model=with_void), True)
        self.assertEqual(cuts(with_void), [((), (0,), (1,))])

    def test_arguments_stay_and_lists_are_new(self):
        self.assertIs(type(self.kept_and_new(exchanges, ROW, ((1,), (0,), (2,)))), list)
        self.assertIs(type(self.kept_and_new(cuts, LINE)), list)
        self.assertIs(type(self.kept_and_new(formula_book, LINE)), tuple)

