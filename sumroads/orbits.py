"""ORBITS of tables and moves under symmetries; books that are closed under them."""

from sumroads.errors import InvalidMove, InvalidTable, NotClosed
from sumroads.lots import is_table_of
from sumroads.moves import above_nought, check_book, is_move_of, turned, turned_right
from sumroads.reach import walked
from sumroads.symmetries import check_exchanges, group_of, led_row
from sumroads.wholebooks import as_book, whole_book


def orbit_of_table(frame, exchanges, table):
    check_exchanges(frame, exchanges)
    if not is_table_of(frame, table):
        raise InvalidTable(table)
    return sorted({led_row(exchange, table): True for exchange in group_of(frame, exchanges)})


def moves_led(exchanges, move):
    """The moves of the changes to which the exchanges lead a move, each once, sorted."""
    return sorted({turned_right(led_row(exchange, move)): True for exchange in exchanges})


def orbit_of_move(frame, exchanges, move):
    check_exchanges(frame, exchanges)
    if not is_move_of(frame, move):
        raise InvalidMove(move)
    return moves_led(group_of(frame, exchanges), move)


def check_led_book(frame, exchanges, book):
    check_exchanges(frame, exchanges)
    check_book(frame, book)


def is_closed_by(exchanges, book):
    """As is_closed_under, of symmetries and a book that are known to be so."""
    return all([led in book for move in book for led in moves_led(exchanges, move)])


def is_closed_under(frame, exchanges, book):
    check_led_book(frame, exchanges, book)
    return is_closed_by(exchanges, book)


def orbits_under(frame, exchanges, book):
    """The sorted orbits of the moves of a book."""
    everyone = group_of(frame, exchanges)
    placed = {}
    found = []
    for move in book:
        if move not in placed:
            orbit = moves_led(everyone, move)
            found.append(orbit)
            for other in orbit:
                placed[other] = True
    return sorted(found)


def book_under(frame, exchanges, book):
    check_led_book(frame, exchanges, book)
    return as_book(sorted([move for orbit in orbits_under(frame, exchanges, book) for move in orbit]))


def check_closed(frame, exchanges, book):
    check_led_book(frame, exchanges, book)
    if not is_closed_by(exchanges, book):
        raise NotClosed()


def orbits_of_book(frame, exchanges, book):
    check_closed(frame, exchanges, book)
    return orbits_under(frame, exchanges, book)


def first_ones(frame, exchanges):
    """The least moves of the orbits that the moves of the whole book have."""
    return [orbit[0] for orbit in orbits_under(frame, exchanges, whole_book(frame))]


def first_moves(frame, exchanges):
    check_exchanges(frame, exchanges)
    return first_ones(frame, exchanges)


def is_whole_by_orbits(frame, exchanges, book):
    check_closed(frame, exchanges, book)
    for move in first_ones(frame, exchanges):
        if above_nought(turned(move)) not in walked(book, above_nought(move)):
            return False
    return True
