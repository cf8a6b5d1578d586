"""Sequences without holes, holes [122], held against trial of all namings."""

import itertools
import unittest

from sumroads.errors import InvalidModel
from sumroads.holes import hole, is_hole, is_sequence, sequence
from tests.helpers import Holds, Odd, odd_values
from tests.test_models import FOUR, ONE, SIXTEEN, SQUARE, WRONG_MODELS
from tests.test_webs import APART, LINE, RING, ROW, STAR, WITH_STRING, all_told, is_close_plainly, models, ties_plainly


def is_sequence_plainly(model, names):
    if sorted(names) != list(range(len(model[1]))):
        return False
    ties = ties_plainly(model)
    return all(is_close_plainly(model, [other for other in names[at:] if (names[at], other) in ties]) for at in range(len(names)))


def is_hole_plainly(model, names):
    many = len(names)
    if many < 4 or len(set(names)) < many:
        return False
    ties = ties_plainly(model)
    beside = {frozenset((names[at], names[(at + 1) % many])) for at in range(many)}
    return all((pair in ties) == (frozenset(pair) in beside) for pair in itertools.permutations(names, 2))


def namings(model):
    many = len(model[1])
    return [names for size in range(many + 1) for names in itertools.permutations(range(many), size)]


def all_webs():
    """A model of four names for each web that four names can have."""
    pairs = list(itertools.combinations(range(4), 2))
    for many in range(len(pairs) + 1):
        for told in itertools.combinations(pairs, many):
            yield ("model", FOUR, (), told or ((),))


class Holes(Holds, unittest.TestCase):
    def test_examples(self):
        self.assertEqual(
            [sequence(ROW), hole(ROW), sequence(RING), is_hole(RING, (1, 2, 3, 0)), is_hole(RING, hole(RING)), is_hole(RING, (0, 2, 1, 3))],
            [(0, 1, 2), None, None, True, True, False])
        self.assertEqual(
            [is_sequence(ROW, (2, 1, 0)), is_sequence(ROW, (1, 0, 2)), is_sequence(ROW, [0, 1, 2]),
             sequence(RING[:3] + (((0, 1, 2), (0, 2, 3)),))], [True, False, False, (1, 0, 2, 3)])

    def check(self, model):
        """All by trial of all namings; tells whether there is a hole."""
        sequences = [names for names in namings(model) if is_sequence_plainly(model, names)]
        holes = [names for names in namings(model) if is_hole_plainly(model, names)]
        self.assertEqual(not sequences, bool(holes))
        self.assertEqual(sequence(model), min(sequences, default=None))
        told = hole(model)
        self.assertEqual(told is None, not holes)
        self.assertTrue(told is None or told in holes)
        for names in namings(model):
            self.assertIs(is_sequence(model, names), names in sequences)
            self.assertIs(is_hole(model, names), names in holes)
        return bool(holes)

    def test_all_webs_of_four_names(self):
        self.assertEqual(sum(self.check(model) for model in all_webs()), 3)

    def test_models_at_random(self):
        for model in models(2, 200):
            self.check(model)
        for told in itertools.combinations(all_told(3), 2):
            self.check(ROW[:3] + (told,))

    def test_rings_stars_and_rows(self):
        self.assertEqual([sequence(model) for model in (RING, STAR, LINE, APART, WITH_STRING, ONE, SIXTEEN, SQUARE)], [
            None, (1, 2, 0, 3), (0, 1, 2, 3), (0, 1, 2, 3), (1, 0, 2, 3), (0,), (0, 1, 2, 3), (0, 1)])
        self.assertEqual([hole(model=model) for model in (STAR, LINE, APART, WITH_STRING, ONE)], [None] * 5)
        for at in range(4):
            ring = tuple((at + step) % 4 for step in range(4))
            self.asks(is_hole, RING, right=[ring, ring[::-1]])
        self.assertEqual(sequence(model=("model", FOUR, (), ((1, 3), (0, 1)))), (0, 1, 2, 3))
        self.assertEqual(sequence(("model", FOUR, (), ((0, 1), (0, 2), (0, 3), (2, 3)))), (1, 0, 2, 3))

    def test_any_value(self):
        self.asks(is_sequence, ROW, right=[(0, 1, 2), (2, 1, 0), (0, 2, 1), (2, 0, 1)], wrong=[
            (0, 1), (0, 1, 2, 3), (0, 1, 3), (3, 1, 0), (0, 1, 1), (False, True, 2), (0, True, 2), [2, 1, 0], (0, 1, "2"), (0, 1, None), (0, 1, Odd()), (), (0, 1, -1)])
        self.asks(is_hole, RING, wrong=[
            (0, 1, 2), (0, 1, 2, 3, 0), (False, True, 2, 3), (0, 1, 2, 2), [0, 1, 2, 3], (0, 1, 2, 4), (0, 1, 2, Odd()), (), (0, 1, 2, "3")])
        for function in (is_sequence, is_hole):
            for model in (ROW, RING):
                self.asks(function, model, wrong=odd_values())
        self.assertIs(is_sequence(value=(0, 1, 2), model=ROW), True)
        self.assertIs(is_hole(value=(0, 1, 2, 3), model=RING), True)
        self.assertIs(is_sequence(ONE, (0,)), True)

    def test_errors(self):
        for function in (sequence, hole):
            self.refuses(function, {"model": ROW}, "model", InvalidModel, WRONG_MODELS)
        for function in (is_sequence, is_hole):
            self.refuses(function, {"model": ROW, "value": ()}, "model", InvalidModel, WRONG_MODELS)

    def test_arguments_stay(self):
        self.assertIs(type(self.kept_and_new(sequence, ROW)), tuple)
        self.assertIs(type(self.kept_and_new(hole, RING)), tuple)
