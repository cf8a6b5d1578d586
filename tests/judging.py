"""The judge of papers [82], [84], [86], written again by the words, for the tests alone."""

from tests.helpers import sums_plainly
from tests.ruling import does, goes, overlaps_plainly
from tests.test_orders import greater_plainly
from tests.walking import steps_plainly


def is_row_of(value, many, most):
    return type(value) is tuple and len(value) == many and all(type(n) is int and 0 <= n <= most for n in value)


def is_table_plainly(frame, value):
    return is_row_of(value, len(frame[1][0]), 20000) and max(sums_plainly(frame, value)) <= 20000


def order_plainly(frame):
    return ("order", (1,) * len(frame[1]) + (0,) * len(frame[1][0]))


def are_rules_plainly(order, value):
    if type(value) is not tuple or len(value) > 200:
        return False
    for rule in value:
        if type(rule) is not tuple or len(rule) != 2 or not all(is_row_of(side, len(order[1]), 20000) for side in rule):
            return False
        if greater_plainly(order, *rule) != 1:
            return False
    return all(one < other for one, other in zip(value, value[1:]))


def end_met(rules, monomial):
    """The END, None if a count above 20,000 is met."""
    while True:
        if max(monomial) > 20000:
            return None
        going = [rule for rule in rules if goes(rule, monomial)]
        if not going:
            return monomial
        monomial = does(going[0], monomial)


def have_one(rules, one, other):
    ends = end_met(rules, one), end_met(rules, other)
    return None not in ends and ends[0] == ends[1]


def sums_of_both(frame, monomial):
    rows = len(frame[1])
    return tuple(a + b for a, b in zip(monomial[:rows], sums_plainly(frame, monomial[rows:])))


def starts_plainly(frame):
    rows, cells = len(frame[1]), len(frame[1][0])
    return [(tuple(row[cell] for row in frame[1]) + (0,) * cells, (0,) * rows + tuple(int(at == cell) for at in range(cells)))
            for cell in range(cells)]


def is_road_plainly(book, road, table, other):
    if not road or road[0] != table or road[-1] != other:
        return False
    return all(there in steps_plainly(book, here) for here, there in zip(road, road[1:]))


def tables_plainly(frame, value):
    return type(value) is tuple and len(value) <= 2000 and all(is_table_plainly(frame, table) for table in value)


def reason_plainly(frame, book, value):
    if type(value) is tuple and len(value) == 3 and type(value[0]) is str and value[0] == "whole":
        _, rules, roads = value
        if are_rules_plainly(order_plainly(frame), rules) and type(roads) is tuple and all(
                tables_plainly(frame, road) for road in roads):
            return against_yes(frame, book, rules, roads)
    if type(value) is tuple and len(value) == 4 and type(value[0]) is str and value[0] == "parted":
        _, table, other, closed = value
        if is_table_plainly(frame, table) and is_table_plainly(frame, other) and tables_plainly(frame, closed):
            return against_no(frame, book, table, other, closed)
    return "form"


def against_yes(frame, book, rules, roads):
    rows = len(frame[1])
    if any(sums_of_both(frame, ahead) != sums_of_both(frame, behind) for ahead, behind in rules):
        return "sums"
    if not all(have_one(rules, *rule) for rule in starts_plainly(frame)):
        return "start"
    if not all(have_one(rules, one, other) for _, _, _, one, other in overlaps_plainly(rules)):
        return "overlap"
    pairs = [(ahead[rows:], behind[rows:]) for ahead, behind in rules if not any(ahead[:rows])]
    if len(pairs) != len(roads) or not all(is_road_plainly(book, road, *pair) for road, pair in zip(roads, pairs)):
        return "roads"
    return None


def against_no(frame, book, table, other, closed):
    if sums_plainly(frame, table) != sums_plainly(frame, other):
        return "sums"
    if list(closed) != sorted(set(closed)) or table not in closed or other in closed:
        return "closed"
    if any(steps_plainly(book, here) - set(closed) for here in closed):
        return "closed"
    return None
