"""INTEGERS and COUNTS, alone and in tuples, and rows of them added cell by cell."""


def is_integer(value):
    return isinstance(value, int) and not isinstance(value, bool)


def is_count(value):
    return is_integer(value) and value >= 0


def is_count_to(value, most):
    return is_count(value) and value <= most


def are_integers(value, many):
    """Whether any value is a tuple of so many INTEGERS."""
    return isinstance(value, tuple) and len(value) == many and all([is_integer(number) for number in value])


def are_small_integers(value, many, size):
    return are_integers(value, many) and all([abs(number) <= size for number in value])


def are_counts(value, many, most):
    """Whether any value is a tuple of so many COUNTS, none above most."""
    return isinstance(value, tuple) and len(value) == many and all([is_count_to(count, most) for count in value])


def is_listed(value):
    """Whether any value may stand where the text says list."""
    return isinstance(value, (list, tuple))


def is_rising(values):
    """Whether each one is less than the one behind it, so that all are unlike."""
    return all([values[at] < values[at + 1] for at in range(len(values) - 1)])


def first_place(row):
    """The position of the first number that is not 0, None if there is none."""
    for at, number in enumerate(row):
        if number != 0:
            return at
    return None


def put_on(row, many, other):
    """The row with the other one put on it so many times, as a tuple."""
    return tuple([number + many * more for number, more in zip(row, other)])


def inner(row, other):
    """The sum of the products, position by position."""
    return sum([number * by for number, by in zip(row, other)])


def bezout(one, other):
    """(g, s, t): the greatest common divisor g = s * one + t * other, not below 0."""
    ahead, behind = (one, 1, 0), (other, 0, 1)
    while behind[0] != 0:
        times = ahead[0] // behind[0]
        ahead, behind = behind, put_on(ahead, -times, behind)
    if ahead[0] < 0:
        return put_on((0, 0, 0), -1, ahead)
    return ahead
