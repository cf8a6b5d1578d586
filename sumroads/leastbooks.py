"""LEAST BOOKS: whole ones with as few moves as can be."""

from sumroads.classes import needed_in, pieces_of
from sumroads.integers import put_on
from sumroads.kernels import sums_by
from sumroads.lots import lot
from sumroads.moves import above_nought, check_book, turned, turned_right
from sumroads.reach import walked
from sumroads.wholebooks import as_book, whole_book


def pieces_needed(frame):
    """The tuples (sums, pieces) of all needed sums, sorted."""
    # Moves are needed only at sums at which a whole book has some.
    places = {sums_by(frame, above_nought(move)): True for move in whole_book(frame)}
    found = [(sums, pieces_of(lot(frame, sums))) for sums in sorted(places)]
    return [(sums, pieces) for sums, pieces in found if needed_in(pieces) > 0]


def needed_sums(frame):
    return [(sums, needed_in(pieces)) for sums, pieces in pieces_needed(frame)]


def least_book(frame):
    moves = []
    for _, pieces in pieces_needed(frame):
        first = pieces[0][0]
        moves.extend([turned_right(put_on(piece[0], -1, first)) for piece in pieces[1:]])
    return as_book(sorted(moves))


def is_least(frame, book):
    check_book(frame, book)
    needed = pieces_needed(frame)
    if len(book) != sum([needed_in(pieces) for _, pieces in needed]):
        return False
    return all([join_pieces(frame, book, sums, pieces) for sums, pieces in needed])


def join_pieces(frame, book, sums, pieces):
    """Whether the moves of the book with ends of these sums join all pieces, none too much."""
    lots = pieces
    for move in book:
        ahead = above_nought(move)
        if sums_by(frame, ahead) == sums:
            behind = above_nought(turned(move))
            both = [part for part in lots if ahead in part or behind in part]
            lots = [part for part in lots if part not in both] + [[table for part in both for table in part]]
    return len(lots) == 1


def least_count(frame):
    many = 1
    for _, pieces in pieces_needed(frame):
        tables = sum([len(piece) for piece in pieces])
        for piece in pieces:
            many = many * len(piece)
        for _ in range(len(pieces) - 2):
            many = many * tables
    return many


def thinned(frame, book):
    check_book(frame, book)
    left = book
    for move in book[::-1]:
        others = tuple([other for other in left if other != move])
        if above_nought(turned(move)) in walked(others, above_nought(move)):
            left = others
    return left
