"""The FRAME of a model, the labels of its rows, and its cells by their names."""

from sumroads.errors import TooMany
from sumroads.kernels import MOST_FRAME_ROWS
from sumroads.models import check_model, choices, places_of
from sumroads.tokens import check_text


def labelled_rows(model):
    """The list of the tuples (label, row) of the frame, however many they are."""
    _, names, _, told = model
    places = places_of(model)
    labels = {}
    for positions in told:
        for choice in choices([names[at] for at in positions]):
            row = tuple([int(holds(place, positions, choice)) for place in places])
            if 1 in row and row not in labels:
                labels[row] = label(names, positions, choice)
    return [(text, row) for row, text in labels.items()]


def holds(place, positions, choice):
    """Whether a place has the chosen values at these positions of names."""
    return all([place[at] == value for at, value in zip(positions, choice)])


def label(names, positions, choice):
    if not positions:
        return "total"
    return " ".join([names[at][0] + "=" + names[at][1][value] for at, value in zip(positions, choice)])


def rows_within_bounds(model):
    check_model(model)
    rows = labelled_rows(model)
    if len(rows) > MOST_FRAME_ROWS:
        raise TooMany("rows", MOST_FRAME_ROWS)
    return rows


def frame_of(model):
    return ("frame", tuple([row for _, row in rows_within_bounds(model)]))


def row_labels(model):
    return [text for text, _ in rows_within_bounds(model)]


def name_of_place(names, place):
    return " ".join([values[at] for at, (_, values) in zip(place, names)])


def cell_names(model):
    """The names of all cells, in their sequence."""
    return [name_of_place(model[1], place) for place in places_of(model)]


def cell_of(model, text):
    check_model(model)
    check_text(text)
    for at, name in enumerate(cell_names(model)):
        if name == text:
            return at
    return None
