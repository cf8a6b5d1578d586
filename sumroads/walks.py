"""WALKS by draws, step by step, and the MATRIX of a lot."""

from sumroads.draws import is_draw_of
from sumroads.errors import InvalidDraw, InvalidDraws, NoMoves, TooMany
from sumroads.integers import is_listed, put_on
from sumroads.lots import check_sums, check_table, lot
from sumroads.moves import check_book
from sumroads.ratios import ratio, ratio_sum, ratio_times
from sumroads.reach import Steps
from sumroads.states import is_nowhere_below
from sumroads.weights import chance_by, check_kind, weights_of

MOST_DRAWS = 400
MOST_IN_MATRIX = 40


def check_moves(book):
    if len(book) == 0:
        raise NoMoves()


def led_by_draw(book, table, draw, kind):
    """The table behind a step; TooMany if a table with too great a total is weighed."""
    way, less, more = draw
    sign = -1 if way % 2 == 1 else 1
    other = put_on(table, sign, book[way // 2])
    if not is_nowhere_below(other):
        return table
    here, there = weights_of(kind, [table, other])
    return other if less * here < more * there else table


def step_by(frame, book, table, draw, kind):
    check_book(frame, book)
    check_table(frame, table)
    if not is_draw_of(book, draw):
        raise InvalidDraw(draw)
    check_kind(kind)
    # A book without moves has no draws, so NoMoves never comes here.
    return led_by_draw(book, table, draw, kind)


def walk(frame, book, table, draws, kind):
    check_book(frame, book)
    check_table(frame, table)
    if not is_listed(draws) or len(draws) > MOST_DRAWS or not all([is_draw_of(book, draw) for draw in draws]):
        raise InvalidDraws(draws)
    check_kind(kind)
    check_moves(book)
    tables = [table]
    for draw in draws:
        tables.append(led_by_draw(book, tables[-1], draw, kind))
    return tables


def matrix_of(book, tables, kind):
    """The matrix of the tables of a lot; TooMany if they are too many, or have too great totals."""
    if len(tables) > MOST_IN_MATRIX:
        raise TooMany("tables", MOST_IN_MATRIX)
    weights = weights_of(kind, tables)
    places = {table: at for at, table in enumerate(tables)}
    steps = Steps(book)
    rows = []
    for here, table in enumerate(tables):
        row = [(0, 1)] * len(tables)
        left = (1, 1)
        for other in steps.tables_from(table):
            there = places[other]
            number, under = chance_by(weights[here], weights[there])
            row[there] = ratio(number, 2 * len(book) * under)
            left = ratio_sum(left, ratio_times(row[there], -1))
        row[here] = left
        rows.append(tuple(row))
    return tuple(rows)


def matrix(frame, book, sums, kind):
    check_book(frame, book)
    check_sums(frame, sums)
    check_kind(kind)
    tables = lot(frame, sums)
    check_moves(book)
    return matrix_of(book, tables, kind)
