"""TREE VALUES: integers, words and tuples of such; their texts, written and read."""

from sumroads.integers import is_integer
from sumroads.tokens import is_digit, is_small_letter

MOST_DEPTH = 12
MOST_PARTS = 2000
MOST_LETTERS = 12
MOST_DIGITS = 30


def is_tree(value):
    return is_tree_to(value, MOST_DEPTH)


def is_tree_to(value, depth):
    """Whether any value is a tree value, nested at most so deep."""
    if isinstance(value, tuple):
        if len(value) > MOST_PARTS or (depth == 1 and len(value) > 0):
            return False
        return all([is_tree_to(part, depth - 1) for part in value])
    if isinstance(value, str):
        return is_letters(value)
    return is_integer(value) and abs(value) < 10 ** 30


def is_letters(text):
    return 1 <= len(text) <= MOST_LETTERS and all([is_small_letter(sign) for sign in text])


def text_of_tree(value):
    """The tree text of a tree value."""
    if isinstance(value, tuple):
        return "(" + " ".join([text_of_tree(part) for part in value]) + ")"
    return str(value)


def is_digits(text):
    """Whether a text is that of a COUNT of not too many digits, without needless zeros."""
    if not 1 <= len(text) <= MOST_DIGITS or not all([is_digit(sign) for sign in text]):
        return False
    return text[0] != "0" or text == "0"


def read_line(line):
    """The tree value whose tree text a line is, None if it is none."""
    read = read_tree(line, 0, MOST_DEPTH)
    if read is None or read[1] != len(line):
        return None
    return read[0]


def read_tree(line, at, depth):
    """The tuple (tree value, place behind its text) from a place of a line on, None if there is none.

    The value is nested at most so deep.
    """
    if line[at:at + 1] == "(":
        return read_parts(line, at + 1, depth)
    behind = at
    while behind < len(line) and line[behind] not in " ()":
        behind += 1
    word = line[at:behind]
    if is_letters(word):
        return word, behind
    if is_digits(word) or (word[:1] == "-" and word != "-0" and is_digits(word[1:])):
        return int(word), behind
    return None


def read_parts(line, at, depth):
    """The same of a tuple, from behind its first sign on."""
    if line[at:at + 1] == ")":
        return (), at + 1
    parts = []
    while depth > 1 and len(parts) < MOST_PARTS:
        read = read_tree(line, at, depth - 1)
        if read is None:
            return None
        part, at = read
        parts.append(part)
        if line[at:at + 1] == ")":
            return tuple(parts), at + 1
        if line[at:at + 1] != " ":
            return None
        at += 1
    return None
