"""What claims are taken: for each word a function of a claim's parts.

Each tells the positions at which a claim is wrong where all else is as told, so [] if it is
taken; None if something else is wrong.
"""

from sumroads.integers import are_counts, put_on
from sumroads.kernels import MOST_SUM, cells_of, is_change_by, is_frame, sums_by
from sumroads.moves import is_book
from sumroads.orders import is_order, rank_of
from sumroads.papers import (
    are_tables, has_form_of_no, has_form_of_yes, is_apart, leading_out, reason_against_rules, wrong_roads,
)
from sumroads.ratios import is_ratio, ratios_sum
from sumroads.reach import is_under
from sumroads.roads import ways_along
from sumroads.symmetries import is_exchange_of
from sumroads.within import lies_within


def is_book_for(frame, book):
    return is_frame(frame) and is_book(frame, book)


def have_same_sums(frame, tables):
    return all([sums_by(frame, table) == sums_by(frame, tables[0]) for table in tables])


def wrong_in_whole(parts):
    frame, book, rules, roads = parts
    if not is_book_for(frame, book) or not has_form_of_yes(frame, ("whole", rules, roads)):
        return None
    if reason_against_rules(frame, rules) is not None:
        return None
    return wrong_roads(frame, book, rules, roads)


def wrong_in_parted(parts):
    frame, book, table, other, closed = parts
    if not is_book_for(frame, book) or not has_form_of_no(frame, ("parted", table, other, closed)):
        return None
    if not have_same_sums(frame, (table, other)) or not is_apart(table, other, closed):
        return None
    return leading_out(book, closed)


def wrong_in_ceilings(parts):
    frame, book, ceilings, table, other, closed = parts
    if not is_book_for(frame, book) or not are_counts(ceilings, cells_of(frame), MOST_SUM):
        return None
    if not has_form_of_no(frame, ("parted", table, other, closed)) or not have_same_sums(frame, (table, other)):
        return None
    if not all([is_under(here, ceilings) for here in closed + (table, other)]) or not is_apart(table, other, closed):
        return None
    return leading_out(book, closed, ceilings)


def is_row_of_tables(frame, value):
    """Whether any value is a tuple of one or more tables."""
    return are_tables(frame, value) and len(value) > 0


def wrong_in_road(parts):
    frame, book, road = parts
    if not is_book_for(frame, book) or not is_row_of_tables(frame, road):
        return None
    ways = ways_along(book, road)
    return [at + 1 for at in range(len(ways)) if ways[at] is None]


def wrong_in_straight(parts):
    frame, road = parts
    if not is_frame(frame) or not is_row_of_tables(frame, road) or not have_same_sums(frame, road):
        return None
    found = []
    for at in range(1, len(road)):
        step = put_on(road[at], -1, road[at - 1])
        if not any(step) or not lies_within(step, put_on(road[-1], -1, road[at - 1])):
            found.append(at)
    return found


def wrong_in_falls(parts):
    frame, order, road = parts
    if not is_frame(frame) or not is_order(order) or len(order[1]) != cells_of(frame):
        return None
    if not is_row_of_tables(frame, road) or not have_same_sums(frame, road):
        return None
    ranks = [rank_of(order, table) for table in road]
    return [at for at in range(1, len(ranks)) if ranks[at] >= ranks[at - 1]]


def wrong_in_sum(parts):
    frame, change, changes = parts
    if not is_frame(frame) or not is_change_by(frame, change) or not isinstance(changes, tuple):
        return None
    if not all([is_change_by(frame, part) and any(part) for part in changes]):
        return None
    left = change
    for part in changes:
        left = put_on(left, -1, part)
    if any(left):
        return None
    return [at for at in range(len(changes)) if not lies_within(changes[at], change)]


def are_ratios(many, value):
    """Whether any value is a tuple of so many RATIOS."""
    return isinstance(value, tuple) and len(value) == many and all([is_ratio(part) for part in value])


def wrong_in_symmetry(parts):
    frame, exchange, rows = parts
    if not is_frame(frame) or not is_exchange_of(cells_of(frame), exchange):
        return None
    many = len(frame[1])
    if not isinstance(rows, tuple) or len(rows) != many or not all([are_ratios(many, row) for row in rows]):
        return None
    return [at for at in range(many) if not is_such_sum(frame, exchange, frame[1][at], rows[at])]


def is_such_sum(frame, exchange, row, shares):
    """Whether the row, set by the exchange, is the sum of all rows taken as often as the RATIOS tell."""
    for cell, place in enumerate(exchange):
        if ratios_sum(shares, [other[cell] for other in frame[1]]) != (row[place], 1):
            return False
    return True


JUDGES = {
    "whole": wrong_in_whole, "parted": wrong_in_parted, "ceilings": wrong_in_ceilings, "road": wrong_in_road,
    "straight": wrong_in_straight, "falls": wrong_in_falls, "sum": wrong_in_sum, "symmetry": wrong_in_symmetry,
}


def wrong_positions(claim):
    """The positions at which a claim by its form is wrong, None if something else is wrong."""
    judge = JUDGES[claim[0]]
    return judge(claim[1:])
