"""Neighbours in a lot, the pieces into which it falls by them, and the moves needed there."""

from sumroads.errors import InvalidTable
from sumroads.kernels import sums_by
from sumroads.lots import check_table, lot
from sumroads.ready import letters_of


def share_a_cell(table, other):
    return any([min(count, more) > 0 for count, more in zip(table, other)])


def are_neighbours(frame, table, other):
    check_table(frame, table)
    check_table(frame, other)
    if sums_by(frame, table) != sums_by(frame, other):
        raise InvalidTable(other)
    return table != other and share_a_cell(table, other)


def cells_together(tables):
    """Parts of the cells, as numbers with a bit for each cell: no table has cells of two of them."""
    parts = []
    for table in tables:
        bits = letters_of(table)
        apart = [part for part in parts if part & bits == 0]
        for part in parts:
            if part & bits != 0:
                bits = bits | part
        parts = apart + [bits]
    return parts


def pieces_of(tables):
    """The pieces of a sorted lot: two tables are of one piece exactly if their cells are of one part."""
    parts = cells_together(tables)
    pieces = [[table for table in tables if letters_of(table) & ~part == 0] for part in parts]
    return sorted(pieces)


def pieces(frame, sums):
    return pieces_of(lot(frame, sums))


def needed_in(pieces_there):
    return max(len(pieces_there) - 1, 0)


def needed_at(frame, sums):
    return needed_in(pieces(frame, sums))
