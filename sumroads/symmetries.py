"""EXCHANGES of cells, the SYMMETRIES of a frame, and their groups."""

from sumroads.errors import InvalidExchange, InvalidExchanges, InvalidRow, TooMany
from sumroads.integers import are_counts, are_small_integers, is_listed
from sumroads.kernels import MOST_CELLS, basis, cells_of, check_frame, is_change_by
from sumroads.rows import MOST_SIZE

MOST_EXCHANGED = 6
MOST_EXCHANGES = 20
MOST_SYMMETRIES = 1000


def is_exchange_of(many, value):
    """Whether any value is an exchange of so many cells."""
    return are_counts(value, many, many - 1) and sorted(value) == list(range(many))


def is_exchange(value):
    return isinstance(value, tuple) and 1 <= len(value) <= MOST_CELLS and is_exchange_of(len(value), value)


def check_exchange(value):
    if not is_exchange(value):
        raise InvalidExchange(value)


def led_row(exchange, row):
    """As led, of an exchange and a row that are known to be so."""
    made = list(row)
    for cell, to in enumerate(exchange):
        made[to] = row[cell]
    return tuple(made)


def led(exchange, row):
    check_exchange(exchange)
    if not are_small_integers(row, len(exchange), MOST_SIZE):
        raise InvalidRow(row)
    return led_row(exchange, row)


def done_behind(exchange, after):
    """As done_after, of two exchanges of as many cells."""
    return tuple([after[to] for to in exchange])


def done_after(exchange, after):
    check_exchange(exchange)
    if not is_exchange_of(len(exchange), after):
        raise InvalidExchange(after)
    return done_behind(exchange, after)


def back_of(exchange):
    check_exchange(exchange)
    return led_row(exchange, list(range(len(exchange))))


def leads_changes(frame, rows, exchange):
    """Whether an exchange of the cells leads each of the rows of the basis to a change."""
    return all([is_change_by(frame, led_row(exchange, row)) for row in rows])


def is_symmetry(frame, value):
    check_frame(frame)
    return is_exchange_of(cells_of(frame), value) and leads_changes(frame, basis(frame), value)


def all_exchanges(many):
    """All exchanges of so many cells, rising."""
    found = [()]
    for _ in range(many):
        found = [ahead + (cell,) for ahead in found for cell in range(many) if cell not in ahead]
    return found


def symmetries(frame):
    check_frame(frame)
    if cells_of(frame) > MOST_EXCHANGED:
        raise TooMany("cells", MOST_EXCHANGED)
    rows = basis(frame)
    return [exchange for exchange in all_exchanges(cells_of(frame)) if leads_changes(frame, rows, exchange)]


def check_exchanges(frame, value):
    check_frame(frame)
    if not is_listed(value) or len(value) > MOST_EXCHANGES:
        raise InvalidExchanges(value)
    if not all([is_symmetry(frame, exchange) for exchange in value]):
        raise InvalidExchanges(value)


def group_of(frame, exchanges):
    """The sorted group of some symmetries; TooMany if it is too great."""
    idle = tuple(range(cells_of(frame)))
    known = {idle: True}
    queue = [idle]
    at = 0
    while at < len(queue):
        here = queue[at]
        at += 1
        for exchange in exchanges:
            made = done_behind(here, exchange)
            if made not in known:
                known[made] = True
                queue.append(made)
        if len(queue) > MOST_SYMMETRIES:
            raise TooMany("symmetries", MOST_SYMMETRIES)
    return sorted(queue)


def group(frame, exchanges):
    check_exchanges(frame, exchanges)
    return group_of(frame, exchanges)
