"""Weights of tables, chances to go from one to another, and DRAWS."""

from sumroads.errors import InvalidBook, InvalidTable
from sumroads.integers import are_counts, is_count, is_rising
from sumroads.kernels import MOST_CELLS, MOST_SUM
from sumroads.moves import MOST_MOVES
from sumroads.rules import is_lone_move
from sumroads.weights import chance_by, check_kind, weights_of


def is_lone_table(value):
    """Whether any value has the form of a table, no frame being told."""
    return isinstance(value, tuple) and 1 <= len(value) <= MOST_CELLS and are_counts(value, len(value), MOST_SUM)


def weight_of(kind, table):
    check_kind(kind)
    if not is_lone_table(table):
        raise InvalidTable(table)
    return weights_of(kind, [table])[0]


def chance(kind, table, other):
    check_kind(kind)
    if not is_lone_table(table):
        raise InvalidTable(table)
    if not are_counts(other, len(table), MOST_SUM):
        raise InvalidTable(other)
    here, there = weights_of(kind, [table, other])
    return chance_by(here, there)


def is_lone_book(value):
    """Whether any value has the form of a book, no frame being told."""
    if not isinstance(value, tuple) or len(value) > MOST_MOVES:
        return False
    if not all([isinstance(move, tuple) and 1 <= len(move) <= MOST_CELLS for move in value]):
        return False
    return all([is_lone_move(len(value[0]), move) for move in value]) and is_rising(value)


def is_draw_of(book, value):
    """As is_draw, of a book that is known to be one."""
    if not isinstance(value, tuple) or len(value) != 3 or not all([is_count(number) for number in value]):
        return False
    way, less, more = value
    return way < 2 * len(book) and less < more


def is_draw(book, value):
    if not is_lone_book(book):
        raise InvalidBook(book)
    return is_draw_of(book, value)
