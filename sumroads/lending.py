"""The reduced rules of the mark rules, told apart: those without the mark, and those with it.

By the mark rules each letter can be taken back, so what a rule has in common on both sides
can be left out. Hence a reduced rule with the mark has it once, ahead alone: it leads what
holds all others of its lot, once less each, to the least of these.
"""

from heapq import heappop, heappush

from sumroads.completing import work_on
from sumroads.errors import TooMany
from sumroads.grades import grades_of
from sumroads.integers import inner, put_on
from sumroads.kernels import basis, cells_of
from sumroads.ready import fits, greater_counts, led_out, letters_of, made_ready, needs_of
from sumroads.rules import MOST_RULES, rules_of_changes


def order_without(many, cell):
    """An order for changes alone: of two tables of a lot the one with less at the cell is greater."""
    return ("order", tuple([-int(at == cell) for at in range(many)]))


def rules_of_lots(frame):
    """Rules by which just the tables of one lot are led alike, from the basis alone.

    Cell by cell: if no ahead has the cell, whatever is led alike with something put beside
    at this cell is so without it; for the cells looked at before that holds already, so what
    both sides have in common there is left out, too. At first, to have lesser rules to begin
    with, it is left out at all cells.
    """
    many = cells_of(frame)
    rules = rules_of_changes(order_without(many, 0), basis(frame))
    for cell in range(many):
        rules = rules_without(frame, cell, rules, many)
    for cell in range(many):
        rules = rules_without(frame, cell, rules, cell + 1)
    return rules


def rules_without(frame, cell, rules, many):
    """Rules none of whose aheads has the cell, made from rules; the first cells, so many, are free."""
    work = work_on(order_without(cells_of(frame), cell), rules, grades_of(frame))
    work.free = (1 << many) - 1
    work.go_on(None, None)
    return work.rules()


def rules_of_tables(frame):
    """The reduced rules without the mark, made ready; TooMany if there are too many."""
    order = ("order", tuple([0] * cells_of(frame)))
    work = work_on(order, rules_of_lots(frame), grades_of(frame))
    if not work.go_on(MOST_RULES, None):
        raise TooMany("rules", MOST_RULES)
    return made_ready(work.rules())


def rules_with_lent(frame, readies):
    """The reduced rules with the mark, those without it being told; TooMany if all are too many.

    They are found by their grades: from the rule that takes back once each, by overlaps with
    rules without the mark alone.
    """
    grades = grades_of(frame)
    ones = tuple([1] * cells_of(frame))
    queue = [(sum(grades), 0, ones, put_on(ones, -1, ones))]
    told = 0
    found = []
    while queue:
        _, _, lent, back = heappop(queue)
        lent = led_out(readies, lent)
        if any([fits(needs, lent) for needs, _, _ in found]):
            continue
        found.append((needs_of(lent), lent, back))
        if len(found) + len(readies) > MOST_RULES:
            raise TooMany("rules", MOST_RULES)
        bits = letters_of(lent)
        for ready in readies:
            if ready.bits & bits != 0:
                monomial = greater_counts(ready.ahead, lent)
                told += 1
                more = put_on(put_on(back, 1, monomial), -1, lent)
                heappush(queue, (inner(grades, monomial), told, ready.done(monomial, 1), more))
    return [((1,) + lent, (0,) + led_out(readies, back)) for _, lent, back in found]
