"""SEQUENCES WITHOUT HOLES of the names of a model, and HOLES."""

from sumroads.integers import are_counts
from sumroads.models import are_unlike, check_model
from sumroads.webs import are_tied, friends_of, is_close_lot, names_of

LEAST_HOLE = 4


def sequence_of(model):
    """As sequence, of a model that is known to be one.

    What can come first can do so in some sequence, if there is one at all: so the least such
    name is taken each time.
    """
    left = names_of(model)
    found = ()
    while left:
        firsts = [name for name in left if is_close_lot(model, friends_among(model, name, left))]
        if not firsts:
            return None
        found = found + (firsts[0],)
        left = [name for name in left if name != firsts[0]]
    return found


def friends_among(model, name, names):
    return [friend for friend in friends_of(model, name) if friend in names]


def sequence(model):
    check_model(model)
    return sequence_of(model)


def arrangements(names):
    """All tuples of some of the names, each at most once."""
    found = [()]
    at = 0
    while at < len(found):
        ahead = found[at]
        at += 1
        found.extend([ahead + (name,) for name in names if name not in ahead])
    return found


def is_ring(model, names):
    """Whether each of the unlike names is tied to the next one, the last to the first, with no other ties."""
    many = len(names)
    if many < LEAST_HOLE:
        return False
    for one in range(many):
        for other in range(one):
            beside = one - other in (1, many - 1)
            if are_tied(model, names[one], names[other]) != beside:
                return False
    return True


def hole(model):
    check_model(model)
    for names in arrangements(names_of(model)):
        if is_ring(model, names):
            return names
    return None


def are_names_of(model, value):
    """Whether any value is a tuple of unlike positions of names."""
    if not isinstance(value, tuple) or not are_counts(value, len(value), len(model[1]) - 1):
        return False
    return are_unlike(value)


def is_sequence(model, value):
    check_model(model)
    if not are_names_of(model, value) or len(value) != len(model[1]):
        return False
    return all([is_close_lot(model, friends_among(model, name, value[at:])) for at, name in enumerate(value)])


def is_hole(model, value):
    check_model(model)
    return are_names_of(model, value) and is_ring(model, value)
