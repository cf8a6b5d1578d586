"""What a desk answers to commands that ask for something and change nothing."""

from sumroads.cheapest import cheapest
from sumroads.closedlots import closed_lot
from sumroads.commands import change_text
from sumroads.counting import lot_count
from sumroads.deciding import is_whole_book
from sumroads.forms import numbers_in
from sumroads.frames import cell_names, frame_of
from sumroads.lots import sums_of
from sumroads.printer import model_text, sums_text, table_text
from sumroads.roads import are_joined, distance
from sumroads.things import check_models

NOTHING = "-"


def or_nothing(text):
    return text if text else NOTHING


def yes_or_no(is_so):
    return "yes" if is_so else "no"


def names_told(things, parts):
    return or_nothing(" ".join(sorted(things)))


def thing_shown(things, parts):
    thing = things[parts[1]]
    if thing.of_sort == "model":
        return model_text(thing.model)
    if thing.of_sort == "table":
        return or_nothing(table_text(thing.model, thing.what))
    return or_nothing("\n".join([change_text(move) for move in thing.what]))


def cells_told(things, parts):
    return ", ".join(cell_names(things[parts[1]].model))


def sums_told(things, parts):
    table = things[parts[1]]
    return sums_text(table.model, sums_of(frame_of(table.model), table.what))


def lot_told(things, parts):
    table = things[parts[1]]
    frame = frame_of(table.model)
    return str(lot_count(frame, sums_of(frame, table.what)))


def closed_told(things, parts):
    book, table = things[parts[1]], things[parts[2]]
    check_models([book, table])
    return str(len(closed_lot(frame_of(book.model), book.what, table.what)))


def joined_told(things, parts):
    book, table, other = things[parts[1]], things[parts[2]], things[parts[3]]
    check_models([book, table, other])
    return yes_or_no(are_joined(frame_of(book.model), book.what, table.what, other.what))


def far_told(things, parts):
    book, table, other = things[parts[1]], things[parts[2]], things[parts[3]]
    check_models([book, table, other])
    many = distance(frame_of(book.model), book.what, table.what, other.what)
    return NOTHING if many is None else str(many)


def whole_told(things, parts):
    book = things[parts[1]]
    return yes_or_no(is_whole_book(frame_of(book.model), book.what))


def cheapest_told(things, parts):
    table = things[parts[1]]
    found = cheapest(frame_of(table.model), table.what, numbers_in(parts[2]))
    return or_nothing(table_text(table.model, found))


def same_told(things, parts):
    return yes_or_no(things[parts[1]].is_like(things[parts[2]]))


ANSWERS = {
    "names": names_told, "show": thing_shown, "cells": cells_told, "sums": sums_told, "lot": lot_told,
    "closed": closed_told, "joined": joined_told, "far": far_told, "whole": whole_told, "cheapest": cheapest_told,
    "same": same_told,
}


def answer_of(things, parts):
    """The answer to a command that is told by its parts, the names being right."""
    action = ANSWERS[parts[0]]
    return action(things, parts)
