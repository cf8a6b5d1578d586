"""COMMANDS of a desk by their words alone; which of them are DEEDS."""

from sumroads.forms import DEED_FORMS, parts_of
from sumroads.rows import check_row


def is_command(value):
    return parts_of(value) is not None


def is_deed(value):
    parts = parts_of(value)
    return parts is not None and parts[0] in DEED_FORMS


def change_text(row):
    check_row(row)
    return ",".join([str(number) for number in row])
