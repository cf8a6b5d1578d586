"""SHARES of the tables of a lot: weighed ones, those behind some steps, those that are kept."""

from math import lcm

from sumroads.closedlots import parts_of_tables
from sumroads.errors import InvalidMany, InvalidShares, NoTables
from sumroads.integers import is_count_to
from sumroads.kernels import sums_by
from sumroads.lots import check_sums, check_table, lot
from sumroads.moves import check_book
from sumroads.ratios import is_ratio, ratio, ratio_product, ratio_sum
from sumroads.reach import Steps
from sumroads.walks import check_moves, matrix_of
from sumroads.weights import check_kind, weights_of

MOST_STEPS = 12


def are_shares(many, value):
    """Whether any value is shares of so many tables."""
    if not isinstance(value, tuple) or len(value) != many or not all([is_ratio(part) for part in value]):
        return False
    if not all([number >= 0 for number, _ in value]):
        return False
    whole = 1
    for _, under in value:
        whole = lcm(whole, under)
    return sum([number * (whole // under) for number, under in value]) == whole


def check_shares(tables, value):
    if not are_shares(len(tables), value):
        raise InvalidShares(value)


def shares_by(weights):
    """Each weight by the sum of all."""
    whole = sum(weights)
    return tuple([ratio(weight, whole) for weight in weights])


def weighed_shares(frame, sums, kind):
    check_sums(frame, sums)
    check_kind(kind)
    tables = lot(frame, sums)
    if not tables:
        raise NoTables()
    return shares_by(weights_of(kind, tables))


def is_shares(frame, sums, value):
    check_sums(frame, sums)
    return are_shares(len(lot(frame, sums)), value)


def tables_of(frame, book, sums, kind):
    """The lot, frame, book, sums and kind being right."""
    check_book(frame, book)
    check_sums(frame, sums)
    check_kind(kind)
    return lot(frame, sums)


def shares_behind(frame, book, sums, kind, shares, many):
    tables = tables_of(frame, book, sums, kind)
    check_shares(tables, shares)
    if not is_count_to(many, MOST_STEPS):
        raise InvalidMany(many)
    check_moves(book)
    rows = matrix_of(book, tables, kind)
    for _ in range(many):
        shares = behind_step(rows, shares)
    return shares


def behind_step(rows, shares):
    """The shares times the matrix with these rows."""
    found = [(0, 1)] * len(shares)
    for share, row in zip(shares, rows):
        for there, part in enumerate(row):
            if share[0] != 0 and part[0] != 0:
                found[there] = ratio_sum(found[there], ratio_product(share, part))
    return tuple(found)


def is_kept(frame, book, sums, kind, shares):
    tables = tables_of(frame, book, sums, kind)
    check_shares(tables, shares)
    check_moves(book)
    weights = weights_of(kind, tables)
    known = {}
    for table, weight, part in zip(tables, weights, shares):
        known[table] = (weight, part)
    steps = Steps(book)
    for table in tables:
        if not all([are_balanced(known[table], known[other]) for other in steps.tables_from(table)]):
            return False
    return True


def are_balanced(one, other):
    """Whether share here times weight there is share there times weight here."""
    weight, (number, under) = one
    further, (more, below) = other
    return number * below * further == more * under * weight


def part_shares(frame, book, sums, kind):
    tables = tables_of(frame, book, sums, kind)
    weights = weights_of(kind, tables)
    found = []
    for part in parts_of_tables(book, tables):
        inside = {table: True for table in part}
        found.append(shares_by([weight if table in inside else 0 for table, weight in zip(tables, weights)]))
    return found


def share_at_most(frame, table, kind):
    check_table(frame, table)
    check_kind(kind)
    tables = lot(frame, sums_by(frame, table))
    weights = weights_of(kind, tables)
    most = weights[tables.index(table)]
    return ratio(sum([weight for weight in weights if weight <= most]), sum(weights))
