"""Steps and ROADS by a book, from table to table; distances."""

from sumroads.errors import InvalidRoad
from sumroads.lots import check_table, is_table_of
from sumroads.moves import check_book
from sumroads.reach import Steps, walked


def steps_from(frame, book, table):
    check_book(frame, book)
    check_table(frame, table)
    return sorted(Steps(book).tables_from(table))


def is_road(frame, book, value):
    check_book(frame, book)
    if not isinstance(value, tuple) or len(value) == 0:
        return False
    if not all([is_table_of(frame, table) for table in value]):
        return False
    return is_way(book, value)


def is_way(book, tables):
    """Whether one move of the book leads from each table but the last one to the next one."""
    return None not in ways_along(book, tables)


def ways_along(book, tables):
    """Step by step the tuple (position of the move, 1 or -1), None where no move leads on."""
    steps = Steps(book)
    return [steps.way_between(tables[at], tables[at + 1]) for at in range(len(tables) - 1)]


def road(frame, book, table, other):
    check_book(frame, book)
    check_table(frame, table)
    check_table(frame, other)
    return road_along(walked(book, table), other)


def road_along(ahead, other):
    """The road to a table from where all tables of a walk come, None if it is not one of them.

    ahead: each table of the walk with the one ahead of it.
    """
    if other not in ahead:
        return None
    tables = [other]
    while ahead[tables[-1]] is not None:
        tables.append(ahead[tables[-1]])
    return tuple(tables[::-1])


def distance(frame, book, table, other):
    tables = road(frame, book, table, other)
    if tables is None:
        return None
    return len(tables) - 1


def are_joined(frame, book, table, other):
    return road(frame, book, table, other) is not None


def moves_of_road(frame, book, road):
    if not is_road(frame, book, road):
        raise InvalidRoad(road)
    return ways_along(book, road)
