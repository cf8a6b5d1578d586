"""TOKENS of texts: words, signs and the ends of rows, each with its place."""

from sumroads.errors import BadText, InvalidText


def check_text(value):
    if not isinstance(value, str):
        raise InvalidText(value)


def is_small_letter(sign):
    return "a" <= sign <= "z"


def is_digit(sign):
    return "0" <= sign <= "9"


def is_of_word(sign):
    return is_small_letter(sign) or is_digit(sign)


def tokens_of(text):
    return tokens_with(text, ":")


def tokens_with(text, signs):
    """The tokens, if the characters of signs, and no others, are signs."""
    check_text(text)
    tokens = []
    start = 0
    for row in text.split("\n"):
        body, _, _ = row.partition("#")
        tokens.extend(tokens_of_row(body, start, signs))
        tokens.append(("end", "", start + len(body)))
        start += len(row) + 1
    return tokens


def tokens_of_row(body, start, signs):
    """The tokens of a row without its remark; start is the place of the row in the text."""
    tokens = []
    at = 0
    while at < len(body):
        if is_of_word(body[at]):
            behind = word_end(body, at)
            tokens.append(("word", body[at:behind], start + at))
            at = behind
        elif body[at] in signs:
            tokens.append(("sign", body[at], start + at))
            at += 1
        elif body[at] == " ":
            at += 1
        else:
            raise BadText(start + at)
    return tokens


def word_end(body, at):
    while at < len(body) and is_of_word(body[at]):
        at += 1
    return at


def rows_of_tokens(tokens):
    """The tokens row by row, each with its end; rows without tokens are left out."""
    rows = []
    row = []
    for token in tokens:
        row.append(token)
        if token[0] == "end":
            if len(row) > 1:
                rows.append(row)
            row = []
    return rows
