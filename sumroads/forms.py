"""The forms of commands: the word, and of what sorts the parts behind it are."""

from sumroads.kernels import MOST_CELLS
from sumroads.tokens import is_digit, is_of_word, is_small_letter

MOST_NAME_LETTERS = 8
MOST_COMMAND_DIGITS = 2
BOOK_KINDS = ("whole", "least", "unparted")
SIGNS = ("on", "off")
# "new" is a name under which nothing is kept; "name" is one of a thing of any sort, "like" one
# of a thing of the sort of the part ahead.
DEED_FORMS = {
    "model": ("new", "text"),
    "table": ("new", "model", "text"),
    "empty": ("new", "model"),
    "book": ("new", "model", "kind"),
    "put": ("book", "change"),
    "take": ("book", "change"),
    "step": ("table", "book", "count", "sign"),
    "copy": ("new", "name"),
    "drop": ("name",),
}
OTHER_FORMS = {
    "undo": (),
    "redo": (),
    "names": (),
    "show": ("name",),
    "cells": ("model",),
    "sums": ("table",),
    "lot": ("table",),
    "closed": ("book", "table"),
    "joined": ("book", "table", "table"),
    "far": ("book", "table", "table"),
    "whole": ("book",),
    "cheapest": ("table", "prices"),
    "same": ("name", "like"),
}


def form_of(word):
    """The sorts of the parts behind the word of a command, None if it is none."""
    if word in DEED_FORMS:
        return DEED_FORMS[word]
    return OTHER_FORMS.get(word)


def is_desk_name(part):
    if not 1 <= len(part) <= MOST_NAME_LETTERS or not is_small_letter(part[0]):
        return False
    return all([is_of_word(sign) for sign in part])


def is_short_count(part):
    """Whether a part is a COUNT of few digits, without needless zeros."""
    if not 1 <= len(part) <= MOST_COMMAND_DIGITS or not all([is_digit(sign) for sign in part]):
        return False
    return part[0] != "0" or part == "0"


def is_short_integer(part):
    if part[:1] == "-":
        return part != "-0" and is_short_count(part[1:])
    return is_short_count(part)


def fits_sort(sort, part):
    """Whether a part of a command may be of a sort, by its signs alone."""
    if sort == "text":
        return len(part) > 0
    if sort == "kind":
        return part in BOOK_KINDS
    if sort == "sign":
        return part in SIGNS
    if sort == "count":
        return is_short_count(part)
    if sort == "prices":
        return are_few_numbers(part) and all([is_short_count(word) for word in part.split(",")])
    if sort == "change":
        return are_few_numbers(part) and all([is_short_integer(word) for word in part.split(",")])
    return is_desk_name(part)


def are_few_numbers(part):
    return len(part.split(",")) <= MOST_CELLS


def numbers_in(part):
    """The numbers of a CHANGE or of PRICES."""
    return tuple([int(word) for word in part.split(",")])


def parts_of(value):
    """The list of the word and the parts of a command, None of any other value."""
    if not isinstance(value, str):
        return None
    word, _, _ = value.partition(" ")
    form = form_of(word)
    if form is None:
        return None
    # A text is all that stands behind its blank, further blanks too.
    parts = value.split(" ", len(form)) if "text" in form else value.split(" ")
    if len(parts) != 1 + len(form):
        return None
    if not all([fits_sort(sort, part) for sort, part in zip(form, parts[1:])]):
        return None
    return parts
