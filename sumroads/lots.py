"""Tables, their sums, and LOTS: all tables with the same sums."""

from sumroads.errors import InvalidSums, InvalidTable, TooMany
from sumroads.filling import first_tables
from sumroads.integers import are_counts
from sumroads.kernels import MOST_SUM, cells_of, check_frame, sums_by

MOST_TABLES = 2000


def is_table_of(frame, value):
    """As is_table, of a frame that is known to be one."""
    if not are_counts(value, cells_of(frame), MOST_SUM):
        return False
    return max(sums_by(frame, value)) <= MOST_SUM


def is_table(frame, value):
    check_frame(frame)
    return is_table_of(frame, value)


def is_sums(frame, value):
    check_frame(frame)
    return are_counts(value, len(frame[1]), MOST_SUM)


def check_table(frame, value):
    if not is_table(frame, value):
        raise InvalidTable(value)


def check_sums(frame, value):
    if not is_sums(frame, value):
        raise InvalidSums(value)


def sums_of(frame, table):
    check_table(frame, table)
    return sums_by(frame, table)


def lot(frame, sums):
    check_sums(frame, sums)
    tables = first_tables(frame, sums, MOST_TABLES + 1)
    if len(tables) > MOST_TABLES:
        raise TooMany("tables", MOST_TABLES)
    return tables


def is_empty(frame, sums):
    check_sums(frame, sums)
    return len(first_tables(frame, sums, 1)) == 0
