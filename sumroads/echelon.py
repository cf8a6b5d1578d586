"""Lots of ROWS: stepped rows, leadings, whole sums, solutions of equations and bars."""

from sumroads.errors import InvalidGoal, InvalidRows, UnlikeLengths
from sumroads.hermite import led_by_heads, lowered, stepped_rows, with_units
from sumroads.integers import are_integers, are_small_integers, first_place, inner, is_listed, put_on
from sumroads.ratios import is_ratio, ratio, ratios_sum
from sumroads.rows import check_row, is_row

MOST_ROWS = 16
MOST_GOAL = 1000000000


def are_rows(value):
    if not is_listed(value) or not 1 <= len(value) <= MOST_ROWS:
        return False
    return all([is_row(row) for row in value]) and all([len(row) == len(value[0]) for row in value])


def check_rows(value):
    if not are_rows(value):
        raise InvalidRows(value)


def check_goal(rows, value):
    check_rows(rows)
    if not are_small_integers(value, len(rows), MOST_GOAL):
        raise InvalidGoal(value)


def sum_of_rows(rows, times, length):
    """All rows, each taken as often as told, added."""
    total = tuple([0] * length)
    for row, many in zip(rows, times):
        total = put_on(total, many, row)
    return total


def columns(rows):
    return [tuple([row[at] for row in rows]) for at in range(len(rows[0]))]


def stepped(rows):
    check_rows(rows)
    kept = stepped_rows(rows)
    nought = tuple([0] * len(rows[0]))
    return kept + [nought for _ in range(len(rows) - len(kept))]


def rank(rows):
    check_rows(rows)
    return len(stepped_rows(rows))


def leading(rows):
    check_rows(rows)
    length = len(rows[0])
    return tuple([row[length:] for row in stepped_rows(with_units(rows))])


def is_leading(rows, value):
    check_rows(rows)
    many = len(rows)
    if not isinstance(value, tuple) or len(value) != many:
        return False
    if not all([are_integers(times, many) for times in value]):
        return False
    made = [sum_of_rows(rows, times, len(rows[0])) for times in value]
    units = with_units([() for _ in range(many)])
    return made == stepped(rows) and stepped_rows(value) == units


def same_span(rows, others):
    check_rows(rows)
    check_rows(others)
    if len(rows[0]) != len(others[0]):
        raise UnlikeLengths()
    return stepped_rows(rows) == stepped_rows(others)


def whole_sum(rows, row):
    check_rows(rows)
    check_row(row)
    if len(row) != len(rows[0]):
        raise UnlikeLengths()
    return sum_to_row(rows, row)


def sum_to_row(rows, row):
    """How often each of the rows is taken to make the row, None if it is not in the span."""
    length = len(row)
    both = stepped_rows(with_units(rows))
    kept = [line for line in both if first_place(line) < length]
    left, times = led_by_heads(row, [line[:length] for line in kept])
    if first_place(left) is not None:
        return None
    made = sum_of_rows(kept, times, length + len(rows))
    # Taking away what makes a row of noughts keeps the numbers small.
    return lowered(made, both, len(kept))[length:]


def solved(rows, goal):
    check_goal(rows, goal)
    return sum_to_row(columns(rows), goal)


def bar(rows, goal):
    check_goal(rows, goal)
    kept = stepped_rows(columns(rows))
    left, _ = led_by_heads(goal, kept)
    at = first_place(left)
    if at is None:
        return None
    ahead = [row for row in kept if first_place(row) <= at]
    if ahead and first_place(ahead[-1]) == at:
        return bar_from(ahead[:-1], at, (1, ahead[-1][at]), len(rows))
    under = 2
    while left[at] % under == 0:
        under += 1
    return bar_from(ahead, at, (1, under), len(rows))


def bar_from(kept, at, last, many):
    """The RATIOS with the last one at a position whose sum with each of the kept rows is 0."""
    parts = [(0, 1)] * many
    parts[at] = last
    for row in kept[::-1]:
        place = first_place(row)
        number, under = ratios_sum(parts, row)
        parts[place] = ratio(-number, under * row[place])
    return tuple(parts)


def is_solution(rows, goal, value):
    check_goal(rows, goal)
    if not are_integers(value, len(rows[0])):
        return False
    return all([inner(row, value) == number for row, number in zip(rows, goal)])


def is_bar(rows, goal, value):
    check_goal(rows, goal)
    if not isinstance(value, tuple) or len(value) != len(rows):
        return False
    if not all([is_ratio(part) for part in value]):
        return False
    sums = [ratios_sum(value, numbers) for numbers in columns(rows)]
    return all([under == 1 for _, under in sums]) and ratios_sum(value, goal)[1] != 1
