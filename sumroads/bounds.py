"""BOUNDS of cells in lots, by whole rules and by counting; cells that are told."""

from sumroads.counting import cell_counts, check_cell
from sumroads.errors import EmptyLot
from sumroads.integers import put_on
from sumroads.kernels import basis, cells_of
from sumroads.lots import check_table, sums_of
from sumroads.prices import order_of_prices
from sumroads.ready import led_out, made_ready
from sumroads.reduced import reduced_of_changes
from sumroads.wholebooks import whole_changes


def cell_bounds(frame, table, position):
    check_table(frame, table)
    check_cell(frame, position)
    alone = tuple([int(cell == position) for cell in range(cells_of(frame))])
    counting = [row for row in frame[1] if row[position] > 0]
    # What costs less by just the cell's count is the cheaper the more stands there.
    others = put_on(counting[0], -1, alone)
    changes = whole_changes(frame)
    found = []
    for prices in (alone, others):
        rules = reduced_of_changes(frame, order_of_prices(prices), changes)
        found.append(led_out(made_ready(rules), table)[position])
    return tuple(found)


def plain_bounds(frame, sums, position):
    counts = [count for count, _ in cell_counts(frame, sums, position)]
    if not counts:
        raise EmptyLot()
    return (counts[0], counts[-1])


def told_cells(frame, table):
    sums = sums_of(frame, table)
    return [cell for cell in range(cells_of(frame)) if len(cell_counts(frame, sums, cell)) == 1]


def always_told(frame):
    rows = basis(frame)
    return [cell for cell in range(cells_of(frame)) if not any([row[cell] for row in rows])]
