"""Whole rules by sums: a letter for each row of the frame, and their elimination."""

from sumroads.completing import reduced_by_grade
from sumroads.errors import InvalidMonomial
from sumroads.grades import grades_of
from sumroads.integers import put_on
from sumroads.kernels import cells_of, check_frame, columns_of, sums_by
from sumroads.orders import is_monomial_of


def order_by_sums(frame):
    """As sum_order, of a frame that is known to be one."""
    return ("order", tuple([1] * len(frame[1]) + [0] * cells_of(frame)))


def sum_order(frame):
    check_frame(frame)
    return order_by_sums(frame)


def cell_rules_started(frame):
    """Cell by cell the rule from its column, at the letters of the rows, to the cell."""
    many = cells_of(frame)
    found = []
    for cell, column in enumerate(columns_of(frame)):
        alone = tuple([int(at == cell) for at in range(many)])
        found.append((column + tuple([0] * many), tuple([0] * len(column)) + alone))
    return found


def sum_rules(frame):
    check_frame(frame)
    return tuple(sorted(cell_rules_started(frame)))


def sums_with_letters(frame, monomial):
    """Row by row the count of the row's letter and the row's sum of the cells' counts."""
    many = len(frame[1])
    return put_on(monomial[:many], 1, sums_by(frame, monomial[many:]))


def check_letters(frame, value):
    check_frame(frame)
    if not is_monomial_of(len(frame[1]) + cells_of(frame), value):
        raise InvalidMonomial(value)


def whole_sums(frame, monomial):
    check_letters(frame, monomial)
    return sums_with_letters(frame, monomial)


def sum_grades(frame):
    """The grade of a monomial of letters and cells: the total of its whole sums."""
    return tuple([1] * len(frame[1])) + grades_of(frame)


def elimination_rules(frame):
    check_frame(frame)
    return reduced_by_grade(order_by_sums(frame), cell_rules_started(frame), sum_grades(frame))


def rules_of_cells(rules, many):
    """Those rules whose aheads have none of so many first letters, without these letters."""
    return tuple([(ahead[many:], behind[many:]) for ahead, behind in rules if not any(ahead[:many])])


def rules_by_sums(frame):
    return rules_of_cells(elimination_rules(frame), len(frame[1]))
