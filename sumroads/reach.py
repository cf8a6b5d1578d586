"""What is come to from a table by steps of a book, never below nought on the way."""

from sumroads.errors import TooMany
from sumroads.integers import put_on
from sumroads.lots import MOST_TABLES


class Steps:
    """The steps of a book: each move put on, and each taken off.

    ways: tuples (change, needs): needs are the cells that fall by the change, each with
    how much must stand there.
    known: of each change the tuple (position of its move, 1 put on or -1 taken off).
    """

    def __init__(self, book):
        self.ways = []
        self.known = {}
        for position, move in enumerate(book):
            for sign in (1, -1):
                change = tuple([sign * number for number in move])
                needs = [(cell, -number) for cell, number in enumerate(change) if number < 0]
                self.ways.append((change, needs))
                self.known[change] = (position, sign)

    def tables_from(self, table):
        found = []
        for change, needs in self.ways:
            if all([table[cell] >= need for cell, need in needs]):
                found.append(put_on(table, 1, change))
        return found

    def way_between(self, table, other):
        """The tuple (position, sign) of the step from the one to the other, None without one."""
        return self.known.get(put_on(other, -1, table))


def walked(book, table, ceilings=None):
    """All tables joined with a table, nearest ones first: each with the one ahead of it.

    With ceilings all roads stay under them.
    """
    steps = Steps(book)
    ahead = {table: None}
    queue = [table]
    at = 0
    while at < len(queue):
        here = queue[at]
        at += 1
        for other in steps.tables_from(here):
            if other not in ahead and (ceilings is None or is_under(other, ceilings)):
                ahead[other] = here
                queue.append(other)
        if len(queue) > MOST_TABLES:
            raise TooMany("tables", MOST_TABLES)
    return ahead


def is_under(table, ceilings):
    return all([count <= most for count, most in zip(table, ceilings)])
