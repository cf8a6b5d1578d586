"""The errors of the package: one class for each kind of failure."""


class TableError(ValueError):
    pass


class InvalidRow(TableError):
    def __init__(self, value):
        self.value = value


class InvalidFrame(TableError):
    def __init__(self, value):
        self.value = value


class InvalidTable(TableError):
    def __init__(self, value):
        self.value = value


class InvalidSums(TableError):
    def __init__(self, value):
        self.value = value


class InvalidMove(TableError):
    def __init__(self, value):
        self.value = value


class InvalidBook(TableError):
    def __init__(self, value):
        self.value = value


class InvalidOrder(TableError):
    def __init__(self, value):
        self.value = value


class InvalidRule(TableError):
    def __init__(self, value):
        self.value = value


class InvalidRules(TableError):
    def __init__(self, value):
        self.value = value


class InvalidModel(TableError):
    def __init__(self, value):
        self.value = value


class InvalidText(TableError):
    def __init__(self, value):
        self.value = value


class InvalidMany(TableError):
    def __init__(self, value):
        self.value = value


class InvalidPosition(TableError):
    def __init__(self, value):
        self.value = value


class InvalidPaper(TableError):
    def __init__(self, value):
        self.value = value


class BadRecord(TableError):
    def __init__(self, position):
        self.position = position


class BadText(TableError):
    def __init__(self, position):
        self.position = position


class InvalidCeilings(TableError):
    def __init__(self, value):
        self.value = value


class InvalidChange(TableError):
    def __init__(self, value):
        self.value = value


class InvalidChanges(TableError):
    def __init__(self, value):
        self.value = value


class InvalidClaim(TableError):
    def __init__(self, value):
        self.value = value


class InvalidCommand(TableError):
    def __init__(self, value):
        self.value = value


class InvalidCut(TableError):
    def __init__(self, value):
        self.value = value


class InvalidDeeds(TableError):
    def __init__(self, position):
        self.position = position


class InvalidDraw(TableError):
    def __init__(self, value):
        self.value = value


class InvalidDraws(TableError):
    def __init__(self, value):
        self.value = value


class InvalidExchange(TableError):
    def __init__(self, value):
        self.value = value


class InvalidExchanges(TableError):
    def __init__(self, value):
        self.value = value


class InvalidGoal(TableError):
    def __init__(self, value):
        self.value = value


class InvalidInteger(TableError):
    def __init__(self, value):
        self.value = value


class InvalidKind(TableError):
    def __init__(self, value):
        self.value = value


class InvalidMonomial(TableError):
    def __init__(self, value):
        self.value = value


class InvalidNames(TableError):
    def __init__(self, value):
        self.value = value


class InvalidNumber(TableError):
    def __init__(self, value):
        self.value = value


class InvalidNumbers(TableError):
    def __init__(self, value):
        self.value = value


class InvalidPattern(TableError):
    def __init__(self, value):
        self.value = value


class InvalidPatterns(TableError):
    def __init__(self, value):
        self.value = value


class InvalidPrices(TableError):
    def __init__(self, value):
        self.value = value


class InvalidRoad(TableError):
    def __init__(self, value):
        self.value = value


class InvalidRows(TableError):
    def __init__(self, value):
        self.value = value


class InvalidShares(TableError):
    def __init__(self, value):
        self.value = value


class InvalidStack(TableError):
    def __init__(self, value):
        self.value = value


class InvalidTotal(TableError):
    def __init__(self, value):
        self.value = value


class MissingError(LookupError):
    pass


class UnknownName(MissingError):
    def __init__(self, value):
        self.value = value


class StateError(RuntimeError):
    pass


class CommandFailed(StateError):
    def __init__(self, position):
        self.position = position


class EmptyLot(StateError):
    pass


class HasHole(StateError):
    pass


class HasVoids(StateError):
    pass


class MoveThere(StateError):
    pass


class NameTaken(StateError):
    def __init__(self, name):
        self.name = name


class NoMove(StateError):
    pass


class NoMoves(StateError):
    pass


class NoStep(StateError):
    pass


class NoTables(StateError):
    pass


class NotClosed(StateError):
    pass


class NotFitted(StateError):
    pass


class NotGoing(StateError):
    pass


class NothingToRedo(StateError):
    pass


class NothingToUndo(StateError):
    pass


class UnlikeLengths(StateError):
    pass


class UnlikeModels(StateError):
    pass


class UnlikeSums(StateError):
    pass


class LimitError(ArithmeticError):
    pass


class TooMany(LimitError):
    def __init__(self, what, limit):
        self.what = what
        self.limit = limit
