"""Whole rules by lending: a mark that takes back what is lent to all cells."""

from sumroads.completing import check_counts
from sumroads.elimination import rules_of_cells
from sumroads.kernels import basis, cells_of, check_frame
from sumroads.lending import rules_of_tables, rules_with_lent
from sumroads.moves import above_nought, turned
from sumroads.rules import rule_between


def order_by_mark(frame):
    """As mark_order, of a frame that is known to be one."""
    return ("order", tuple([1] + [0] * cells_of(frame)))


def mark_order(frame):
    check_frame(frame)
    return order_by_mark(frame)


def mark_rules(frame):
    check_frame(frame)
    order = order_by_mark(frame)
    many = 1 + cells_of(frame)
    rules = [(tuple([1] * many), tuple([0] * many))]
    for change in basis(frame):
        rules.append(rule_between(order, (0,) + above_nought(change), (0,) + above_nought(turned(change))))
    check_counts(rules)
    return tuple(sorted(rules))


def saturation_rules(frame):
    check_frame(frame)
    readies = rules_of_tables(frame)
    rules = [((0,) + ready.ahead, (0,) + ready.behind) for ready in readies]
    rules.extend(rules_with_lent(frame, readies))
    check_counts(rules)
    return tuple(sorted(rules))


def rules_by_lending(frame):
    return rules_of_cells(saturation_rules(frame), 1)
