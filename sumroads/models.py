"""MODELS: tables told by names and values, and their places."""

from sumroads.errors import InvalidModel
from sumroads.integers import is_count_to, is_rising
from sumroads.tokens import is_of_word, is_small_letter

MOST_NAMES = 4
MOST_VALUES = 6
MOST_LETTERS = 8
MOST_PLACES = 64
MOST_MODEL_CELLS = 16
MOST_TOLD = 16
ROW_WORDS = ("name", "void", "sum", "total")


def is_value_word(value):
    """Whether any value is a string that may be a value of a name."""
    if not isinstance(value, str) or not 1 <= len(value) <= MOST_LETTERS:
        return False
    return all([is_of_word(sign) for sign in value])


def is_name_word(value):
    """Whether any value is a string that may be a name."""
    return is_value_word(value) and is_small_letter(value[0]) and value not in ROW_WORDS


def are_unlike(words):
    return len({word: True for word in words}) == len(words)


def is_name(value):
    if not isinstance(value, tuple) or len(value) != 2:
        return False
    name, values = value
    if not is_name_word(name) or not isinstance(values, tuple) or not 1 <= len(values) <= MOST_VALUES:
        return False
    return all([is_value_word(word) for word in values]) and are_unlike(values)


def are_names(value):
    if not isinstance(value, tuple) or not 1 <= len(value) <= MOST_NAMES:
        return False
    if not all([is_name(name) for name in value]):
        return False
    return are_unlike([name for name, _ in value]) and how_many_places(value) <= MOST_PLACES


def how_many_places(names):
    many = 1
    for _, values in names:
        many = many * len(values)
    return many


def is_place(names, value):
    if not isinstance(value, tuple) or len(value) != len(names):
        return False
    return all([is_count_to(at, len(values) - 1) for at, (_, values) in zip(value, names)])


def are_voids(names, value):
    if not isinstance(value, tuple) or not all([is_place(names, place) for place in value]):
        return False
    return is_rising(value) and 1 <= how_many_places(names) - len(value) <= MOST_MODEL_CELLS


def is_told_sum(names, value):
    if not isinstance(value, tuple) or not all([is_count_to(at, len(names) - 1) for at in value]):
        return False
    return is_rising(value)


def are_told(names, value):
    if not isinstance(value, tuple) or not 1 <= len(value) <= MOST_TOLD:
        return False
    return all([is_told_sum(names, told) for told in value]) and are_unlike(value)


def is_model(value):
    if not isinstance(value, tuple) or len(value) != 4:
        return False
    word, names, voids, told = value
    if not isinstance(word, str) or word != "model" or not are_names(names):
        return False
    return are_voids(names, voids) and are_told(names, told)


def check_model(value):
    if not is_model(value):
        raise InvalidModel(value)


def choices(names):
    """All tuples of positions of values, one for each of the names, rising."""
    found = [()]
    for _, values in names:
        found = [ahead + (at,) for ahead in found for at in range(len(values))]
    return found


def places_of(model):
    check_model(model)
    _, names, voids, _ = model
    return [place for place in choices(names) if place not in voids]
