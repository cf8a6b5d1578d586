"""RECORDS of claims: written line by line with a check, and read again."""

from sumroads.claims import CLAIM_PARTS, has_form_of_claim
from sumroads.errors import BadRecord, InvalidClaim, InvalidText, TooMany
from sumroads.tokens import check_text
from sumroads.trees import is_tree, read_line, text_of_tree

MOST_SIGNS = 20000
CHECKED_BY = 9973
FIRST_WORD = "sumroads"


def tree_text(value):
    if not is_tree(value):
        raise InvalidClaim(value)
    return text_of_tree(value)


def check_number(text):
    """As check_of, of a text of any length."""
    number = 0
    for sign in text:
        number = (31 * number + ord(sign)) % CHECKED_BY
    return number


def check_of(text):
    if not isinstance(text, str) or len(text) > MOST_SIGNS:
        raise InvalidText(text)
    return check_number(text)


def with_end(lines):
    """The text of the lines with the last one, which tells their number and their check."""
    text = "".join([line + "\n" for line in lines])
    return text + "end " + str(len(lines)) + " " + str(check_number(text)) + "\n"


def record_text(claim):
    if not has_form_of_claim(claim):
        raise InvalidClaim(claim)
    lines = [FIRST_WORD + " " + claim[0]]
    lines.extend([text_of_tree(part) for part in claim[1:]])
    text = with_end(lines)
    if len(text) > MOST_SIGNS:
        raise TooMany("signs", MOST_SIGNS)
    return text


def parse_record(text):
    check_text(text)
    # What stands behind the last line feed has none: so it is no line of a record.
    lines = text.split("\n")[:-1]
    word = word_of(lines)
    if word is None:
        raise BadRecord(0)
    behind = 1 + CLAIM_PARTS[word]
    parts = []
    for at in range(1, behind):
        part = read_line(lines[at]) if at < len(lines) else None
        if part is None:
            raise BadRecord(at)
        parts.append(part)
    whole = with_end(lines[:behind])
    if text[:len(whole)] != whole:
        raise BadRecord(behind)
    if text != whole:
        raise BadRecord(behind + 1)
    return (word,) + tuple(parts)


def word_of(lines):
    """The word of the claim that the first line tells, None if it tells none."""
    if not lines:
        return None
    first, _, word = lines[0].partition(" ")
    if first != FIRST_WORD or word not in CLAIM_PARTS:
        return None
    return word
