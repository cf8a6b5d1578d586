"""CEILINGS: lots and books under them; straight roads, which never leave them."""

from sumroads.conformal import check_two_tables
from sumroads.errors import InvalidCeilings, InvalidTable, TooMany
from sumroads.filling import first_under
from sumroads.integers import are_counts, put_on
from sumroads.kernels import MOST_SUM, cells_of, sums_by
from sumroads.lots import MOST_TABLES, check_sums, is_table_of
from sumroads.moves import above_nought, check_book, turned
from sumroads.parting import unparted_changes
from sumroads.reach import is_under, walked
from sumroads.unparted import moves_among
from sumroads.within import Within, lies_within, sizes_of


def check_ceilings(frame, value):
    if not are_counts(value, cells_of(frame), MOST_SUM):
        raise InvalidCeilings(value)


def tables_under(frame, sums, ceilings):
    """The lot under the ceilings; TooMany if it has more tables."""
    tables = first_under(frame, sums, ceilings, MOST_TABLES + 1)
    if len(tables) > MOST_TABLES:
        raise TooMany("tables", MOST_TABLES)
    return tables


def lot_under(frame, sums, ceilings):
    check_sums(frame, sums)
    check_ceilings(frame, ceilings)
    return tables_under(frame, sums, ceilings)


def closed_lot_under(frame, book, ceilings, table):
    check_book(frame, book)
    check_ceilings(frame, ceilings)
    if not is_table_of(frame, table) or not is_under(table, ceilings):
        raise InvalidTable(table)
    return sorted(walked(book, table, ceilings))


def whole_under(frame, book, ceilings, sums):
    check_book(frame, book)
    check_ceilings(frame, ceilings)
    check_sums(frame, sums)
    tables = tables_under(frame, sums, ceilings)
    return len(tables) == 0 or len(walked(book, tables[0], ceilings)) == len(tables)


def whole_under_all(frame, book):
    check_book(frame, book)
    for move in moves_among(unparted_changes(frame)):
        if move not in book:
            return ("ceilings", sizes_of(move), above_nought(move), above_nought(turned(move)))
    return ("all",)


def straight_road(frame, table, other):
    check_two_tables(frame, table, other)
    road = [table]
    for part in Within(frame).parts_of(put_on(other, -1, table)):
        road.append(put_on(road[-1], 1, part))
    return tuple(road)


def is_straight_road(frame, table, other, value):
    check_two_tables(frame, table, other)
    if not isinstance(value, tuple) or len(value) == 0:
        return False
    if not all([is_table_of(frame, here) for here in value]) or value[0] != table or value[-1] != other:
        return False
    if not all([sums_by(frame, here) == sums_by(frame, table) for here in value]):
        return False
    steps = []
    for at in range(len(value) - 1):
        step = put_on(value[at + 1], -1, value[at])
        # Between the one ahead and the last one are those to which a change within leads.
        if not lies_within(step, put_on(other, -1, value[at])):
            return False
        steps.append(step)
    finder = Within(frame)
    return all([finder.is_unparted(step) for step in {step: True for step in steps}])
