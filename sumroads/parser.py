"""Texts read as models and as tables of a model."""

from sumroads.errors import BadText, TooMany
from sumroads.frames import frame_of
from sumroads.kernels import MOST_SUM, sums_by
from sumroads.models import (
    MOST_MODEL_CELLS, MOST_NAMES, MOST_PLACES, MOST_TOLD, MOST_VALUES, ROW_WORDS,
    how_many_places, is_name_word, is_value_word, places_of,
)
from sumroads.tokens import rows_of_tokens, tokens_of, tokens_with

MOST_DIGITS = 5


class Draft:
    """What the rows read so far tell of a model."""

    def __init__(self):
        self.named = []
        self.voids = []
        self.told_sums = []

    def has_other_rows(self):
        return len(self.voids) > 0 or len(self.told_sums) > 0


def parse_model(text):
    draft = Draft()
    for row in rows_of_tokens(tokens_of(text)):
        read_model_row(draft, row)
    # Without a name no sum has been read either.
    if not draft.told_sums:
        raise BadText(len(text))
    many = how_many_places(draft.named)
    if len(draft.voids) == many:
        raise BadText(len(text))
    if many > MOST_PLACES:
        raise TooMany("places", MOST_PLACES)
    if many - len(draft.voids) > MOST_MODEL_CELLS:
        raise TooMany("cells", MOST_MODEL_CELLS)
    return ("model", tuple(draft.named), tuple(sorted(draft.voids)), tuple(draft.told_sums))


def read_model_row(draft, row):
    _, word, place = row[0]
    if word not in ROW_WORDS or (word != "name" and not draft.named):
        raise BadText(place)
    if word == "name":
        read_name(draft, row)
    elif word == "void":
        read_void(draft, row)
    elif len(draft.told_sums) == MOST_TOLD:
        raise BadText(place)
    elif word == "sum":
        read_sum(draft, row)
    else:
        read_total(draft, row)


def read_name(draft, row):
    if draft.has_other_rows() or len(draft.named) == MOST_NAMES:
        raise BadText(row[0][2])
    _, name, place = row[1]
    if not is_name_word(name) or name in [told for told, _ in draft.named]:
        raise BadText(place)
    if row[2][0] != "sign":
        raise BadText(row[2][2])
    values = []
    for kind, word, at in row[3:]:
        if kind == "end" and values:
            break
        # Signs and ends are no words of values either.
        if not is_value_word(word) or word in values or len(values) == MOST_VALUES:
            raise BadText(at)
        values.append(word)
    draft.named.append((name, tuple(values)))


def read_void(draft, row):
    place = read_values(draft.named, row[1:])
    if place in draft.voids:
        raise BadText(row[len(draft.named)][2])
    check_end(row[len(draft.named) + 1])
    draft.voids.append(place)


def read_values(names, tokens):
    """The place that the first tokens tell by a value of each name."""
    place = []
    for at, (_, values) in enumerate(names):
        _, word, start = tokens[at]
        if word not in values:
            raise BadText(start)
        place.append(values.index(word))
    return tuple(place)


def check_end(token):
    if token[0] != "end":
        raise BadText(token[2])


def read_sum(draft, row):
    names = [name for name, _ in draft.named]
    positions = []
    for kind, word, place in row[1:]:
        if kind == "end" and positions and tuple(sorted(positions)) not in draft.told_sums:
            break
        if word not in names or names.index(word) in positions:
            raise BadText(place)
        positions.append(names.index(word))
    draft.told_sums.append(tuple(sorted(positions)))


def read_total(draft, row):
    if () in draft.told_sums:
        raise BadText(row[0][2])
    check_end(row[1])
    draft.told_sums.append(())


def parse_table(model, text):
    frame = frame_of(model)
    _, names, _, _ = model
    places = places_of(model)
    told = {}
    for row in rows_of_tokens(tokens_with(text, "")):
        place = read_values(names, row)
        if place not in places or place in told:
            raise BadText(row[len(names) - 1][2])
        told[place] = read_count(row[len(names)])
        check_end(row[len(names) + 1])
    table = tuple([told.get(place, 0) for place in places])
    if max(sums_by(frame, table)) > MOST_SUM:
        raise TooMany("counts", MOST_SUM)
    return table


def read_count(token):
    _, word, place = token
    if not word.isdigit() or len(word) > MOST_DIGITS or (word[0] == "0" and word != "0"):
        raise BadText(place)
    return int(word)
