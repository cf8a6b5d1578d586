"""Rows WITHIN other ones, changes within a change, tables BETWEEN two tables."""

from sumroads.errors import InvalidChange, InvalidRow, TooMany, UnlikeSums
from sumroads.filling import first_under
from sumroads.integers import put_on
from sumroads.kernels import check_frame, sums_by
from sumroads.lots import MOST_TABLES, check_table
from sumroads.moves import is_small_change
from sumroads.rows import check_row, is_row
from sumroads.within import Within, lies_within, sizes_of

MOST_CHANGES = 2000


def is_within(row, other):
    check_row(row)
    if not is_row(other) or len(other) != len(row):
        raise InvalidRow(other)
    return lies_within(row, other)


def check_small_change(frame, value):
    """InvalidChange unless a change, none of whose numbers is too great for a move."""
    check_frame(frame)
    if not is_small_change(frame, value):
        raise InvalidChange(value)


def changes_within(frame, change):
    check_small_change(frame, change)
    found = Within(frame).changes_in(change, MOST_CHANGES + 1)
    if len(found) > MOST_CHANGES:
        raise TooMany("changes", MOST_CHANGES)
    return found


def check_two_tables(frame, table, other):
    check_table(frame, table)
    check_table(frame, other)
    if sums_by(frame, table) != sums_by(frame, other):
        raise UnlikeSums()


def between(frame, table, other):
    check_two_tables(frame, table, other)
    least = tuple([min(count, more) for count, more in zip(table, other)])
    sums = sums_by(frame, put_on(table, -1, least))
    tables = first_under(frame, sums, sizes_of(put_on(other, -1, table)), MOST_TABLES + 1)
    if len(tables) > MOST_TABLES:
        raise TooMany("tables", MOST_TABLES)
    return [put_on(least, 1, rest) for rest in tables]
