"""WEBS of models: which names are tied by told sums, close lots of names, fitted models."""

from sumroads.errors import InvalidNames, InvalidPosition
from sumroads.integers import is_count_to, is_listed
from sumroads.models import are_unlike, check_model


def names_of(model):
    """The positions of the names of a model."""
    return list(range(len(model[1])))


def are_tied(model, one, other):
    return one != other and any([one in told and other in told for told in model[3]])


def friends_of(model, position):
    """As friends, of a model and a position that are known to be so."""
    return [other for other in names_of(model) if are_tied(model, position, other)]


def is_close_lot(model, names):
    """As is_close, of names that are known to be so."""
    return all([one == other or are_tied(model, one, other) for one in names for other in names])


def web_of(model):
    check_model(model)
    return [(one, other) for one in names_of(model) for other in friends_of(model, one) if one < other]


def friends(model, position):
    check_model(model)
    if not is_count_to(position, len(model[1]) - 1):
        raise InvalidPosition(position)
    return friends_of(model, position)


def is_close(model, names):
    check_model(model)
    if not is_listed(names) or not all([is_count_to(name, len(model[1]) - 1) for name in names]):
        raise InvalidNames(names)
    if not are_unlike(names):
        raise InvalidNames(names)
    return is_close_lot(model, names)


def greatest_lots(model):
    """As greatest, of a model that is known to be one."""
    lots = [()]
    for name in names_of(model):
        lots.extend([names + (name,) for names in lots if is_close_lot(model, names + (name,))])
    return sorted([names for names in lots if names and is_greatest(model, names)])


def is_greatest(model, names):
    """Whether no other name can be put to a close lot."""
    return not any([is_close_lot(model, names + (other,)) for other in names_of(model) if other not in names])


def greatest(model):
    check_model(model)
    return greatest_lots(model)


def is_fitted(model):
    check_model(model)
    return len(model[2]) == 0 and all([names in model[3] for names in greatest_lots(model)])
