"""WHOLE BOOKS, and the whole rules of a frame in any order."""

from sumroads.elimination import rules_by_sums
from sumroads.ends import end_in_counts
from sumroads.errors import TooMany
from sumroads.integers import put_on
from sumroads.lots import check_table
from sumroads.moves import MOST_IN_MOVE, MOST_MOVES, turned_right
from sumroads.ready import made_ready
from sumroads.reduced import check_order_of, reduced_of_changes


def change_of_rule(rule):
    """Ahead less behind, turned so that its first number that is not 0 is above 0."""
    return turned_right(put_on(rule[0], -1, rule[1]))


def whole_changes(frame):
    """The changes of the whole rules, rising, however many and however great."""
    return sorted([change_of_rule(rule) for rule in rules_by_sums(frame)])


def as_book(moves):
    """The moves as a book; TooMany if they are more, or one has a greater number."""
    if len(moves) > MOST_MOVES or not all([is_small(move) for move in moves]):
        raise TooMany("moves", MOST_MOVES)
    return tuple(moves)


def is_small(move):
    return all([abs(number) <= MOST_IN_MOVE for number in move])


def whole_book(frame):
    return as_book(whole_changes(frame))


def whole_rules(frame, order):
    check_order_of(frame, order)
    return reduced_of_changes(frame, order, whole_changes(frame))


def end_in_lot(frame, order, table):
    check_order_of(frame, order)
    check_table(frame, table)
    return end_in_counts(made_ready(whole_rules(frame, order)), table)
