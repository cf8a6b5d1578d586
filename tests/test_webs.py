"""Webs, close lots, fitted models [121], held against trial of all lots of names."""

import itertools
import random
import unittest

from sumroads.errors import InvalidModel, InvalidNames, InvalidPosition
from sumroads.models import is_model
from sumroads.webs import friends, greatest, is_close, is_fitted, web_of
from tests.helpers import Holds, Odd
from tests.test_models import CUBE, FOUR, ONE, SIXTEEN, SQUARE, WRONG_MODELS, with_many_places

ROW = ("model", FOUR[:3], (), ((0, 1), (1, 2)))
RING = ("model", FOUR, (), ((0, 1), (1, 2), (2, 3), (0, 3)))
STAR = ("model", FOUR, (), ((0, 1), (0, 2), (0, 3)))
LINE = ("model", FOUR, (), ((0, 1), (1, 2), (2, 3)))
APART = ("model", FOUR, (), ((0,), (1,), (2,), (3,)))
WITH_STRING = ("model", FOUR, (), ((0, 1), (1, 2), (2, 3), (0, 3), (0, 2)))
WRONG_POSITIONS = [-1, 3, True, False, None, "0", (0,), [0], Odd()]


def all_told(names):
    """All told sums of so many names."""
    return [told for many in range(names + 1) for told in itertools.combinations(range(names), many)]


def models(seed, many, sizes=(2, 2, 2)):
    """Models with told sums at random, names of one and more values, some with voids."""
    draw = random.Random(seed)
    while many:
        names = tuple((name, tuple("xyz"[:draw.choice(sizes)])) for name in "abcd"[:draw.randint(1, 4)])
        told = all_told(len(names))
        places = list(itertools.product(*[range(len(values)) for _, values in names]))
        voids = tuple(sorted(draw.sample(places, draw.choice([0, 0, 0, 1])))) if len(places) > 1 else ()
        model = ("model", names, voids, tuple(draw.sample(told, draw.randint(1, min(5, len(told))))))
        if is_model(model):
            many -= 1
            yield model


def ties_plainly(model):
    found = set()
    for told in model[3]:
        found |= set(itertools.permutations(told, 2))
    return found


def is_close_plainly(model, names):
    return all(pair in ties_plainly(model) for pair in itertools.permutations(names, 2))


def greatest_plainly(model):
    lots = [set(names) for many in range(1, 5) for names in itertools.combinations(range(len(model[1])), many)
            if is_close_plainly(model, names)]
    return sorted(tuple(sorted(lot)) for lot in lots if not any(lot < other for other in lots))


def is_fitted_plainly(model):
    return model[2] == () and all(lot in model[3] for lot in greatest_plainly(model))


class Webs(Holds, unittest.TestCase):
    def test_examples(self):
        self.assertEqual(
            [web_of(ROW), friends(ROW, 1), is_close(ROW, [0, 2]), greatest(ROW), is_fitted(ROW),
             is_fitted(ROW[:3] + (((0, 1), (2,)),)), is_fitted(ROW[:3] + (((0, 1),),))],
            [[(0, 1), (1, 2)], [0, 2], False, [(0, 1), (1, 2)], True, True, False])

    def test_by_trial_of_all_lots(self):
        fitted = {True: 0, False: 0}
        for model in models(1, 400):
            many = len(model[1])
            ties = ties_plainly(model)
            self.assertEqual(web_of(model), sorted((one, other) for one, other in ties if one < other))
            for name in range(many):
                self.assertEqual(friends(model, name), [other for other in range(many) if (name, other) in ties])
            for size in range(many + 1):
                for names in itertools.permutations(range(many), size):
                    for value in (names, list(names)):
                        self.assertIs(is_close(model, value), is_close_plainly(model, names))
            self.assertEqual(greatest(model), greatest_plainly(model))
            self.assertIs(is_fitted(model), is_fitted_plainly(model))
            fitted[is_fitted(model)] += 1
        self.assertGreater(min(fitted.values()), 20)

    def test_rings_stars_rows_and_lots_of_names(self):
        self.assertEqual(web_of(RING), [(0, 1), (0, 3), (1, 2), (2, 3)])
        self.assertEqual(greatest(RING), [(0, 1), (0, 3), (1, 2), (2, 3)])
        self.assertEqual(greatest(STAR), [(0, 1), (0, 2), (0, 3)])
        self.assertEqual(greatest(LINE), [(0, 1), (1, 2), (2, 3)])
        self.assertEqual(greatest(APART), [(0,), (1,), (2,), (3,)])
        self.assertEqual(greatest(CUBE), [(0, 1, 2, 3)])
        self.assertEqual(greatest(WITH_STRING), [(0, 1, 2), (0, 2, 3)])
        self.assertEqual([is_fitted(model) for model in (RING, STAR, LINE, APART, CUBE, WITH_STRING)], [True] * 5 + [False])
        self.assertEqual(web_of(APART), [])
        self.assertEqual(greatest(model=("model", FOUR, (), ((),))), [(0,), (1,), (2,), (3,)])
        self.assertIs(is_fitted(model=("model", FOUR, (), ((),))), False)

    def test_close_lots_of_none_and_of_one(self):
        for model in (ROW, RING, APART, ONE):
            self.assertIs(is_close(model, []), True)
            self.assertIs(is_close(model, ()), True)
            self.assertIs(is_close(names=[0], model=model), True)
        self.assertIs(is_close(RING, [0, 1, 2]), False)
        self.assertIs(is_close(WITH_STRING, (2, 0, 3)), True)

    def test_voids_are_not_fitted(self):
        self.assertIs(is_fitted(SQUARE), False)
        self.assertIs(is_fitted(SQUARE[:2] + ((), SQUARE[3])), True)
        self.assertEqual((web_of(SQUARE), greatest(SQUARE), friends(position=1, model=SQUARE)), ([], [(0,), (1,)], []))

    def test_models_without_a_frame(self):
        # No frame is wanted: models with far more than 16 rows are taken.
        self.assertEqual(greatest(SIXTEEN), [(0, 1, 2, 3)])
        self.assertIs(is_fitted(SIXTEEN), True)
        self.assertEqual(web_of(with_many_places(6, 5, 2)), [])

    def test_errors(self):
        for function in (web_of, greatest, is_fitted):
            self.refuses(function, {"model": ROW}, "model", InvalidModel, WRONG_MODELS)
        good = {"model": ROW, "position": 0}
        self.refuses(friends, good, "model", InvalidModel, WRONG_MODELS)
        self.refuses(friends, good, "position", InvalidPosition, WRONG_POSITIONS)
        self.first_refused(friends, good, [("model", None, InvalidModel), ("position", 3, InvalidPosition)])
        good = {"model": ROW, "names": [0]}
        self.refuses(is_close, good, "model", InvalidModel, WRONG_MODELS)
        self.refuses(is_close, good, "names", InvalidNames, [
            [0, 0], [3], [-1], [0, True], [False], (1, 2, 1), 0, None, True, "01", Odd(), [Odd()], [None], {0: 1}, [[0]], ["a"]])
        self.first_refused(is_close, good, [("model", None, InvalidModel), ("names", [3], InvalidNames)])

    def test_arguments_stay_and_lists_are_new(self):
        for function in (web_of, greatest):
            self.assertIs(type(self.kept_and_new(function, RING)), list)
        self.assertIs(type(self.kept_and_new(friends, RING, 0)), list)
        self.kept_and_new(is_close, RING, [0, 1])
