"""RULES on monomials: those of moves and books, where they go, what they lead to."""

from sumroads.errors import InvalidBook, InvalidMonomial, InvalidMove, InvalidRule, InvalidRules, NotGoing, TooMany
from sumroads.integers import are_small_integers, first_place, is_rising
from sumroads.moves import MOST_IN_MOVE, MOST_MOVES, above_nought, turned
from sumroads.orders import MOST_COUNT, MOST_LETTERS, check_monomial, check_order, is_monomial_of, rank_of
from sumroads.ready import is_nowhere_above

MOST_RULES = 200


def are_two_monomials(many, value):
    """Whether any value is a tuple of two monomials of so many letters."""
    return isinstance(value, tuple) and len(value) == 2 and all([is_monomial_of(many, part) for part in value])


def is_rule_of(order, value):
    """As is_rule, of an order that is known to be one."""
    if not are_two_monomials(len(order[1]), value):
        return False
    ahead, behind = value
    return rank_of(order, ahead) > rank_of(order, behind)


def are_rules(order, value):
    """As is_rules, of an order that is known to be one."""
    if not isinstance(value, tuple) or len(value) > MOST_RULES:
        return False
    return all([is_rule_of(order, rule) for rule in value]) and is_rising(value)


def is_rule(order, value):
    check_order(order)
    return is_rule_of(order, value)


def is_rules(order, value):
    check_order(order)
    return are_rules(order, value)


def check_rules(order, value):
    if not is_rules(order, value):
        raise InvalidRules(value)


def rule_between(order, one, other):
    """The rule of two unlike monomials, whatever their counts."""
    if rank_of(order, one) > rank_of(order, other):
        return (one, other)
    return (other, one)


def rule_of(order, one, other):
    check_order(order)
    check_monomial(order, one)
    check_monomial(order, other)
    if one == other:
        return None
    return rule_between(order, one, other)


def is_lone_move(many, value):
    """Whether any value has the form of a move of so many letters, no frame being told."""
    if not are_small_integers(value, many, MOST_IN_MOVE):
        return False
    at = first_place(value)
    return at is not None and value[at] > 0


def rule_of_change(order, change):
    """The rule of the two ends of a change that is not all 0."""
    return rule_between(order, above_nought(change), above_nought(turned(change)))


def rules_of_changes(order, changes):
    return tuple(sorted([rule_of_change(order, change) for change in changes]))


def rule_of_move(order, move):
    check_order(order)
    if not is_lone_move(len(order[1]), move):
        raise InvalidMove(move)
    return rule_of_change(order, move)


def rules_of_book(order, book):
    check_order(order)
    if not isinstance(book, tuple) or len(book) > MOST_MOVES:
        raise InvalidBook(book)
    if not all([is_lone_move(len(order[1]), move) for move in book]) or not is_rising(book):
        raise InvalidBook(book)
    return rules_of_changes(order, book)


def is_lone_rule(value):
    """Whether any value is a tuple of two unlike monomials of as many letters."""
    if not isinstance(value, tuple) or len(value) != 2 or not isinstance(value[0], tuple):
        return False
    many = len(value[0])
    return 1 <= many <= MOST_LETTERS and are_two_monomials(many, value) and value[0] != value[1]


def goes_by(rule, monomial):
    if not is_lone_rule(rule):
        raise InvalidRule(rule)
    if not is_monomial_of(len(rule[0]), monomial):
        raise InvalidMonomial(monomial)
    return is_nowhere_above(rule[0], monomial)


def led_once(rule, monomial):
    if not goes_by(rule, monomial):
        raise NotGoing()
    led = tuple([count - less + more for count, less, more in zip(monomial, rule[0], rule[1])])
    if max(led) > MOST_COUNT:
        raise TooMany("counts", MOST_COUNT)
    return led
