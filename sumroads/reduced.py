"""REDUCED rules, and what they tell: what is led alike, which tables are joined."""

from sumroads.completing import plain_grade, reduced_by_grade, reduced_rules, work_on
from sumroads.errors import InvalidOrder
from sumroads.grades import grades_of
from sumroads.integers import inner
from sumroads.kernels import cells_of, check_frame, sums_by
from sumroads.lots import check_table
from sumroads.moves import check_book
from sumroads.orders import check_monomial, is_order
from sumroads.overlaps import is_closed_up
from sumroads.ready import fits, made_ready
from sumroads.rules import check_rules, rules_of_changes

FIRST_LOOK = 50


def reduced(order, rules):
    check_rules(order, rules)
    return reduced_rules(order, rules)


def is_reduced(order, rules):
    check_rules(order, rules)
    readies = made_ready(rules)
    for at, one in enumerate(readies):
        for place, other in enumerate(readies):
            if fits(one.needs, other.behind) or (at != place and fits(one.needs, other.ahead)):
                return False
    return is_closed_up(readies, None)


def leads_alike(order, rules, one, other):
    check_rules(order, rules)
    check_monomial(order, one)
    check_monomial(order, other)
    work = work_on(order, rules, plain_grade(order))
    most = FIRST_LOOK
    is_done = False
    while not is_done and work.end_of(one) != work.end_of(other):
        # Rules on the way never tell too much: one end is enough, however many are left.
        is_done = work.go_on(most, None)
        most = 2 * most
    return work.end_of(one) == work.end_of(other)


def check_order_of(frame, value):
    """InvalidOrder unless an order of as many letters as the frame has cells."""
    check_frame(frame)
    if not is_order(value) or len(value[1]) != cells_of(frame):
        raise InvalidOrder(value)


def reduced_of_changes(frame, order, changes):
    """The reduced rules of the rules of some changes, none of them all 0."""
    return reduced_by_grade(order, rules_of_changes(order, changes), grades_of(frame))


def reduced_book(frame, order, book):
    check_order_of(frame, order)
    check_book(frame, book)
    return reduced_of_changes(frame, order, book)


def joined_by_ends(frame, order, book, table, other):
    check_order_of(frame, order)
    check_book(frame, book)
    check_table(frame, table)
    check_table(frame, other)
    if sums_by(frame, table) != sums_by(frame, other):
        return False
    grades = grades_of(frame)
    work = work_on(order, rules_of_changes(order, book), grades)
    # Rules of a greater grade than the tables' never go by them.
    work.go_on(None, inner(grades, table))
    return work.end_of(table) == work.end_of(other)
