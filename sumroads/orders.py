"""MONOMIALS, and ORDERS by which of two unlike ones one is the greater."""

from sumroads.errors import InvalidMany, InvalidMonomial, InvalidOrder
from sumroads.integers import are_counts, inner, is_count, is_listed

MOST_LETTERS = 40
MOST_WEIGHT = 99
MOST_COUNT = 20000
MOST_MONOMIALS = 400


def is_order(value):
    if not isinstance(value, tuple) or len(value) != 2:
        return False
    word, weights = value
    if not isinstance(word, str) or word != "order" or not isinstance(weights, tuple):
        return False
    return 1 <= len(weights) <= MOST_LETTERS and are_counts(weights, len(weights), MOST_WEIGHT)


def check_order(value):
    if not is_order(value):
        raise InvalidOrder(value)


def is_monomial_of(many, value):
    """As is_monomial, of a number of letters that is known to be one."""
    return are_counts(value, many, MOST_COUNT)


def is_monomial(many, value):
    if not is_count(many) or not 1 <= many <= MOST_LETTERS:
        raise InvalidMany(many)
    return is_monomial_of(many, value)


def check_monomial(order, value):
    """InvalidMonomial unless a monomial of as many letters as the order has."""
    if not is_monomial_of(len(order[1]), value):
        raise InvalidMonomial(value)


def rank_of(order, monomial):
    """What is greater, in the order of Python, exactly for greater monomials."""
    turned = tuple([-count for count in monomial[::-1]])
    return (inner(order[1], monomial), sum(monomial), turned)


def greater(order, one, other):
    check_order(order)
    check_monomial(order, one)
    check_monomial(order, other)
    if one == other:
        return 0
    return 1 if rank_of(order, one) > rank_of(order, other) else -1


def sorted_by(order, monomials):
    check_order(order)
    if not is_listed(monomials) or len(monomials) > MOST_MONOMIALS:
        raise InvalidMonomial(monomials)
    for monomial in monomials:
        check_monomial(order, monomial)
    ranked = sorted([(rank_of(order, monomial), monomial) for monomial in {one: True for one in monomials}])
    return [monomial for _, monomial in ranked]
