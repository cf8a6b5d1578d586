"""Models and their frames [21], [22]."""

import itertools
import unittest

from sumroads.errors import InvalidModel, InvalidText
from sumroads.frames import cell_of, frame_of, row_labels
from sumroads.kernels import is_frame
from sumroads.models import is_model, places_of
from tests.helpers import Holds, Odd, odd_values

SQUARE = ("model", (("sex", ("f", "m")), ("age", ("a", "b"))), ((1, 1),), ((0,), (1,)))
ONE = ("model", (("a", ("x",)),), (), ((),))
TWO = ("model", (("a", ("x", "y")), ("b", ("0", "name"))), (), ((1,), (), (0, 1)))
FOUR = tuple((name, ("x", "y")) for name in ("a", "b", "c", "d"))
CUBE = ("model", FOUR, (), ((0, 1, 2, 3),))
SIXTEEN = ("model", FOUR, (), tuple(
    told for many in range(5) for told in itertools.combinations(range(4), many)))


def with_names(*names):
    return ("model", tuple(names), (), ((),))


def with_many_places(*many):
    """A model whose names have so many values, with voids so that just 16 cells are left."""
    names = tuple((chr(97 + at), tuple(str(value) for value in range(size))) for at, size in enumerate(many))
    places = list(itertools.product(*[range(size) for size in many]))
    return ("model", names, tuple(places[16:]), ((),))


RIGHT = [
    SQUARE, ONE, TWO, CUBE, SIXTEEN, with_many_places(4, 4, 4), with_many_places(6, 5, 2),
    with_names(("a2345678", ("12345678",))), with_names(("a", ("a", "b", "c", "d", "e", "f"))),
    ("model", (("a", ("x", "y")),), ((0,),), ((0,),)), ("model", SQUARE[1], (), ((1,), (0,))),
]
WRONG_MODELS = [
    list(SQUARE), SQUARE[:3], SQUARE + ((),), ("models",) + SQUARE[1:], (Odd(),) + SQUARE[1:], (1,) + SQUARE[1:],
    with_names(), with_names(*FOUR, ("e", ("x",))), with_names(("a", ())), with_names(("a", tuple("abcdefg"))),
    with_names(("a", ("x", "x"))), with_names(("a", ("x",)), ("a", ("x",))), with_names(("", ("x",))),
    with_names(("1a", ("x",))), with_names(("A", ("x",))), with_names(("a23456789", ("x",))),
    with_names(("a", ("123456789",))), with_names(("a", ("",))), with_names(("a", ("X",))), with_names(("a b", ("x",))),
    with_names(("name", ("x",))), with_names(("void", ("x",))), with_names(("sum", ("x",))),
    with_names(("total", ("x",))), with_names(["a", ("x",)]), with_names(("a", ["x"])), with_names(("a", "x")),
    with_names(("a", (1,))), with_names((1, ("x",))), with_names(("a", ("x",), ())), with_names(("a", (Odd(),))),
    with_names((b"a", ("x",))), with_names(Odd()), with_names(("a", ("x_",))), with_names(("a", ("\u00e9",))),
    ("model", [("a", ("x",))], (), ((),)),
    with_many_places(6, 6, 2), ("model", with_many_places(6, 6, 2)[1], (), ((),)),
    ("model", FOUR + (("e", ("x",)),), (), ((),)),
    ("model", with_many_places(6, 3)[1], (), ((),)), ("model", with_many_places(6, 3)[1], ((0, 0),), ((),)),
    ("model", ONE[1], ((0,),), ((),)),
    SQUARE[:2] + (((1, 1), (0, 1)), ((),)), SQUARE[:2] + (((1, 1), (1, 1)), ((),)), SQUARE[:2] + (((1, 2),), ((),)),
    SQUARE[:2] + (((1,),), ((),)), SQUARE[:2] + (((1, 0, 0),), ((),)), SQUARE[:2] + (((True, 1),), ((),)),
    SQUARE[:2] + (((1, False),), ((),)), SQUARE[:2] + ([(1, 1)], ((),)), SQUARE[:2] + (([1, 1],), ((),)),
    SQUARE[:2] + (((-1, 1),), ((),)), SQUARE[:2] + ((Odd(),), ((),)), SQUARE[:2] + (None, ((),)),
    SQUARE[:3] + ((),), SQUARE[:3] + (((1, 0),),), SQUARE[:3] + (((0,), (0,)),), SQUARE[:3] + (((2,),),),
    SQUARE[:3] + (((0, 0),),), SQUARE[:3] + (((True,),),), SQUARE[:3] + (((0, True),),), SQUARE[:3] + ([(0,)],),
    SQUARE[:3] + (([0],),), SQUARE[:3] + ((0,),), SQUARE[:3] + (((-1,),),), SQUARE[:3] + ((Odd(),),),
    SQUARE[:3] + (((Odd(),),),), SQUARE[:3] + (((0, 1, 2),),), SQUARE[:3] + (((), ()),),
]


class Models(Holds, unittest.TestCase):
    def test_examples(self):
        self.assertEqual(
            [is_model(SQUARE), is_model(SQUARE[:3] + (((1, 0),),)), places_of(SQUARE)],
            [True, False, [(0, 0), (0, 1), (1, 0)]])

    def test_is_model(self):
        self.asks(is_model, right=RIGHT, wrong=WRONG_MODELS + odd_values())
        self.assertIs(is_model(value=ONE), True)

    def test_the_names_bounds(self):
        self.assertEqual([len(model[1]) for model in (ONE, SQUARE, with_many_places(4, 4, 4), CUBE)], [1, 2, 3, 4])
        self.assertEqual(len(SIXTEEN[3]), 16)
        self.assertEqual(len(places_of(with_many_places(4, 4, 4))), 16)
        self.assertIs(is_model(CUBE[:3] + (((3,), (2,), (1,), (0,)),)), True)

    def test_places(self):
        for model in RIGHT:
            wanted = [place for place in itertools.product(*[range(len(values)) for _, values in model[1]])
                      if place not in model[2]]
            self.assertEqual(places_of(model), wanted)
        self.assertEqual(places_of(model=TWO), [(0, 0), (0, 1), (1, 0), (1, 1)])

    def test_errors(self):
        for function in (places_of, frame_of, row_labels):
            self.refuses(function, {"model": ONE}, "model", InvalidModel, WRONG_MODELS + odd_values())
        self.refuses(cell_of, {"model": ONE, "text": "x"}, "model", InvalidModel, WRONG_MODELS)

    def test_lists_are_new(self):
        self.kept_and_new(places_of, SQUARE)


class Frames(Holds, unittest.TestCase):
    def test_examples(self):
        self.assertEqual(
            [frame_of(SQUARE), row_labels(SQUARE), cell_of(SQUARE, "f b"), cell_of(SQUARE, "m b")],
            [("frame", ((1, 1, 0), (0, 0, 1), (1, 0, 1), (0, 1, 0))), ["sex=f", "sex=m", "age=a", "age=b"], 1, None])

    def rows_plainly(self, model):
        """The rows and labels by the words of [22]."""
        _, names, _, told = model
        rows, labels = [], []
        for positions in told:
            for choice in itertools.product(*[range(len(names[at][1])) for at in positions]):
                row = tuple(
                    1 if all(place[at] == value for at, value in zip(positions, choice)) else 0
                    for place in places_of(model))
                words = [f"{names[at][0]}={names[at][1][value]}" for at, value in zip(positions, choice)]
                if 1 in row and row not in rows:
                    rows.append(row)
                    labels.append(" ".join(words) if positions else "total")
        return rows, labels

    def test_by_their_words(self):
        told = 0
        for model in RIGHT:
            rows, labels = self.rows_plainly(model)
            if len(rows) > 16:
                continue
            told += 1
            self.assertEqual(frame_of(model), ("frame", tuple(rows)))
            self.assertEqual(row_labels(model), labels)
            self.assertIs(is_frame(frame_of(model)), True)
        self.assertGreater(told, 8)

    def test_like_rows_and_rows_without_a_1_are_left_out(self):
        names = (("a", ("x", "y")), ("b", ("u", "v")))
        model = ("model", names, ((0, 0), (0, 1)), ((0,), (), (0, 1), (1,)))
        self.assertEqual(frame_of(model), ("frame", ((1, 1), (1, 0), (0, 1))))
        self.assertEqual(row_labels(model), ["a=y", "a=y b=u", "a=y b=v"])
        model = ("model", names, ((0, 0), (0, 1)), ((), (0,)))
        self.assertEqual(row_labels(model), ["total"])
        model = ("model", names, ((1, 1),), ((0, 1), (1,)))
        self.assertEqual(row_labels(model), ["a=x b=u", "a=x b=v", "a=y b=u", "b=u"])

    def test_sixteen_and_seventeen_rows(self):
        self.assertEqual(len(frame_of(CUBE)[1]), 16)
        self.assertEqual(len(row_labels(CUBE)), 16)
        self.assertEqual(row_labels(CUBE)[6], "a=x b=y c=y d=x")
        more = CUBE[:3] + (CUBE[3] + ((),),)
        self.assertIs(is_model(more), True)
        self.too_many("rows", 16, frame_of, more)
        self.too_many("rows", 16, row_labels, more)
        self.assertEqual(cell_of(more, "x x y x"), 2)

    def test_cell_of(self):
        self.assertEqual([cell_of(TWO, text) for text in ("x 0", "x name", "y 0", "y name")], [0, 1, 2, 3])
        for text in ("", "x", "x  0", " x 0", "x 0 ", "0 x", "x 0 y", "x\n0", "X 0"):
            self.assertIs(cell_of(TWO, text), None)
        self.assertEqual(cell_of(text="x", model=ONE), 0)
        good = {"model": ONE, "text": "x"}
        self.refuses(cell_of, good, "text", InvalidText, [None, 0, True, b"x", ["x"], ("x",), Odd()])
        self.first_refused(cell_of, good, [("model", None, InvalidModel), ("text", None, InvalidText)])

    def test_lists_are_new(self):
        self.kept_and_new(row_labels, SQUARE)
        self.kept_and_new(frame_of, SQUARE)
