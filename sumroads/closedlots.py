"""CLOSED LOTS: all tables joined with a table; the parts into which a lot falls."""

from sumroads.integers import is_listed, is_rising
from sumroads.lots import check_sums, check_table, is_table_of, lot
from sumroads.moves import check_book
from sumroads.reach import Steps, walked


def closed_lot(frame, book, table):
    check_book(frame, book)
    check_table(frame, table)
    return sorted(walked(book, table))


def is_closed_lot(frame, book, value):
    check_book(frame, book)
    if not is_listed(value) or len(value) == 0:
        return False
    if not all([is_table_of(frame, table) for table in value]):
        return False
    return is_rising(value) and is_one_closed_part(Steps(book), value)


def is_one_closed_part(steps, tables):
    """Whether no step leads out of the tables, and all are come to from the first one."""
    inside = {table: True for table in tables}
    found = {tables[0]: True}
    queue = [tables[0]]
    at = 0
    while at < len(queue):
        here = queue[at]
        at += 1
        for other in steps.tables_from(here):
            if other not in inside:
                return False
            if other not in found:
                found[other] = True
                queue.append(other)
    return len(queue) == len(tables)


def parts_of_lot(frame, book, sums):
    check_book(frame, book)
    check_sums(frame, sums)
    return parts_of_tables(book, lot(frame, sums))


def parts_of_tables(book, tables):
    """The sorted parts of a lot that is told by its tables."""
    placed = {}
    parts = []
    for table in tables:
        if table not in placed:
            part = sorted(walked(book, table))
            parts.append(part)
            for other in part:
                placed[other] = True
    return parts


def parted(frame, book, sums):
    parts = parts_of_lot(frame, book, sums)
    if len(parts) < 2:
        return None
    return (parts[0][0], parts[1][0])
