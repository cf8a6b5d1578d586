"""THINGS that a desk keeps under names: models, tables and books; what deeds make of them.

Things are never changed, and neither are the dicts of them: a deed makes a new dict.
"""

from sumroads.errors import (
    InvalidMove, InvalidPosition, MoveThere, NameTaken, NoMove, NoStep, TooMany, UnknownName, UnlikeModels,
)
from sumroads.forms import form_of, numbers_in
from sumroads.frames import frame_of
from sumroads.integers import put_on
from sumroads.leastbooks import least_book
from sumroads.moves import MOST_MOVES, is_move
from sumroads.parser import parse_model, parse_table
from sumroads.states import is_nowhere_below
from sumroads.unparted import unparted
from sumroads.wholebooks import as_book, whole_book

SORTS = ("model", "table", "book")


class Thing:
    """A model, or a table or a book of a model, as of_sort tells; what is the MODEL, the TABLE, the BOOK itself."""

    def __init__(self, sort, model, what):
        self.of_sort = sort
        self.model = model
        self.what = what

    def is_like(self, other):
        return self.model == other.model and self.what == other.what


def check_names(things, parts):
    """NameTaken, then UnknownName, of the names of a command."""
    form = form_of(parts[0])
    for sort, part in zip(form, parts[1:]):
        if sort == "new" and part in things:
            raise NameTaken(part)
    for sort, part in zip(form, parts[1:]):
        if sort in SORTS or sort in ("name", "like"):
            wanted = things[parts[1]].of_sort if sort == "like" else sort
            if part not in things or wanted not in ("name", things[part].of_sort):
                raise UnknownName(part)


def check_models(things):
    """UnlikeModels unless all things are of one model."""
    if not all([thing.model == things[0].model for thing in things]):
        raise UnlikeModels()


def with_thing(things, name, thing):
    found = dict(things)
    found[name] = thing
    return found


def with_model(things, parts):
    model = parse_model(parts[2])
    # A model without a frame is not kept.
    frame_of(model)
    return with_thing(things, parts[1], Thing("model", model, model))


def with_table(things, parts):
    model = things[parts[2]].model
    return with_thing(things, parts[1], Thing("table", model, parse_table(model, parts[3])))


def with_empty_book(things, parts):
    return with_thing(things, parts[1], Thing("book", things[parts[2]].model, ()))


def with_book(things, parts):
    model = things[parts[2]].model
    return with_thing(things, parts[1], Thing("book", model, book_by(frame_of(model), parts[3])))


def book_by(frame, kind):
    if kind == "whole":
        return whole_book(frame)
    if kind == "least":
        return least_book(frame)
    return as_book(unparted(frame))


def move_in(book, part):
    """The move that a CHANGE tells, InvalidMove if it is none."""
    move = numbers_in(part)
    if not is_move(frame_of(book.model), move):
        raise InvalidMove(move)
    return move


def with_move_put(things, parts):
    book = things[parts[1]]
    move = move_in(book, parts[2])
    if move in book.what:
        raise MoveThere()
    if len(book.what) == MOST_MOVES:
        raise TooMany("moves", MOST_MOVES)
    return with_thing(things, parts[1], Thing("book", book.model, tuple(sorted(book.what + (move,)))))


def with_move_taken(things, parts):
    book = things[parts[1]]
    move = move_in(book, parts[2])
    if move not in book.what:
        raise NoMove()
    left = tuple([other for other in book.what if other != move])
    return with_thing(things, parts[1], Thing("book", book.model, left))


def with_step(things, parts):
    table, book = things[parts[1]], things[parts[2]]
    check_models([table, book])
    position = int(parts[3])
    if position >= len(book.what):
        raise InvalidPosition(position)
    sign = 1 if parts[4] == "on" else -1
    led = put_on(table.what, sign, book.what[position])
    if not is_nowhere_below(led):
        raise NoStep()
    return with_thing(things, parts[1], Thing("table", table.model, led))


def with_copy(things, parts):
    return with_thing(things, parts[1], things[parts[2]])


def without(things, parts):
    return {name: thing for name, thing in things.items() if name != parts[1]}


DEEDS = {
    "model": with_model, "table": with_table, "empty": with_empty_book, "book": with_book, "put": with_move_put,
    "take": with_move_taken, "step": with_step, "copy": with_copy, "drop": without,
}


def behind_deed(things, parts):
    """The things behind a deed that is told by its parts, the names being right."""
    action = DEEDS[parts[0]]
    return action(things, parts)
