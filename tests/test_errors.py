"""The errors: their classes, bases, parameters and attributes."""

import unittest

from sumroads import errors
from tests.helpers import Odd

WITH_VALUE = """
InvalidRow InvalidFrame InvalidTable InvalidSums InvalidMove InvalidBook InvalidOrder InvalidRule InvalidRules
InvalidModel InvalidText InvalidMany InvalidPosition InvalidPaper InvalidCeilings InvalidChange InvalidChanges
InvalidClaim InvalidCommand InvalidCut InvalidDraw InvalidDraws InvalidExchange InvalidExchanges InvalidGoal
InvalidInteger InvalidKind InvalidMonomial InvalidNames InvalidNumber InvalidNumbers InvalidPattern
InvalidPatterns InvalidPrices InvalidRoad InvalidRows InvalidShares InvalidStack InvalidTotal
""".split()
WITH_POSITION = "BadRecord BadText InvalidDeeds".split()
OF_STATE = """
EmptyLot HasHole HasVoids MoveThere NoMove NoMoves NoStep NoTables NotClosed NotFitted NotGoing NothingToRedo
NothingToUndo UnlikeLengths UnlikeModels UnlikeSums
""".split()
TOLD = (
    [(name, "TableError", ("value",)) for name in WITH_VALUE]
    + [(name, "TableError", ("position",)) for name in WITH_POSITION]
    + [(name, "StateError", ()) for name in OF_STATE]
    + [("UnknownName", "MissingError", ("value",)), ("CommandFailed", "StateError", ("position",))]
    + [("NameTaken", "StateError", ("name",)), ("TooMany", "LimitError", ("what", "limit"))]
)
BASES = {"TableError": ValueError, "MissingError": LookupError, "StateError": RuntimeError,
         "LimitError": ArithmeticError}
ANY = [None, True, 0, -5, 10 ** 40, "", "text", (1, [2]), [3], {}, Odd(), int]


class Errors(unittest.TestCase):
    def test_bases(self):
        for name, base in BASES.items():
            self.assertEqual(getattr(errors, name).__bases__, (base,))
            self.assertIsInstance(getattr(errors, name)(), base)

    def test_classes_and_bases(self):
        for name, base, _ in TOLD:
            self.assertEqual(getattr(errors, name).__bases__, (getattr(errors, base),), name)

    def test_there_are_no_others(self):
        told = {name for name, _, _ in TOLD} | set(BASES)
        self.assertEqual({name for name in vars(errors) if not name.startswith("_")}, told)

    def test_attributes_by_place_and_by_name(self):
        for name, _, parameters in TOLD:
            for value in ANY:
                values = [value] + ["second"] * (len(parameters) - 1)
                by_name = dict(zip(parameters, values))
                for error in (getattr(errors, name)(*values[:len(parameters)]), getattr(errors, name)(**by_name)):
                    self.assertEqual(set(vars(error)), set(parameters), name)
                    for parameter, wanted in by_name.items():
                        self.assertIs(getattr(error, parameter), wanted)

    def test_just_as_many_parameters_as_told(self):
        for name, _, parameters in TOLD:
            if parameters:
                with self.assertRaises(TypeError):
                    getattr(errors, name)()
                with self.assertRaises(TypeError):
                    getattr(errors, name)(*range(len(parameters) + 1))

    def test_both_of_too_many(self):
        error = errors.TooMany("rows", 16)
        self.assertEqual((error.what, error.limit), ("rows", 16))
        error = errors.TooMany(limit=1, what=2)
        self.assertEqual((error.what, error.limit), (2, 1))
