"""A DESK: keeps models, tables and books under names, and does commands, deeds among them."""

from sumroads.answers import NOTHING, answer_of
from sumroads.commands import is_deed
from sumroads.errors import (
    CommandFailed, InvalidCommand, InvalidDeeds, LimitError, MissingError, NothingToRedo, NothingToUndo, StateError,
    TableError, TooMany, UnknownName,
)
from sumroads.forms import DEED_FORMS, parts_of
from sumroads.integers import is_listed
from sumroads.things import behind_deed, check_names

MOST_THINGS = 16
MOST_DEEDS = 200


class Desk:
    """things: what is kept, by names; a new dict behind each deed.

    past: the tuples (line, things ahead of it) of the deeds that can be taken back, the first
    one first; undone: the tuples (line, things behind it) of those that can be done again,
    the next one last.
    """

    def __init__(self):
        self.things = {}
        self.past = []
        self.undone = []

    def __iter__(self):
        raise TypeError("a desk is not iterated over")

    def __len__(self):
        return len(self.past)

    def __contains__(self, name):
        return isinstance(name, str) and name in self.things

    def __getitem__(self, name):
        if not isinstance(name, str) or name not in self.things:
            raise UnknownName(name)
        return self.things[name].what

    def __call__(self, command):
        return self.do(command)

    def names(self):
        return sorted(self.things)

    def do(self, command):
        parts = parts_of(command)
        if parts is None:
            raise InvalidCommand(command)
        check_names(self.things, parts)
        if parts[0] == "undo":
            return self.take_back()
        if parts[0] == "redo":
            return self.do_again()
        if parts[0] in DEED_FORMS:
            return self.do_deed(command, parts)
        return answer_of(self.things, parts)

    def do_deed(self, line, parts):
        things = behind_deed(self.things, parts)
        if len(things) > MOST_THINGS:
            raise TooMany("names", MOST_THINGS)
        if len(self.past) == MOST_DEEDS:
            raise TooMany("deeds", MOST_DEEDS)
        self.past.append((line, self.things))
        self.things = things
        self.undone = []
        return NOTHING

    def take_back(self):
        if not self.past:
            raise NothingToUndo()
        line, things = self.past.pop()
        self.undone.append((line, self.things))
        self.things = things
        return line

    def do_again(self):
        if not self.undone:
            raise NothingToRedo()
        line, things = self.undone.pop()
        self.past.append((line, self.things))
        self.things = things
        return line

    def do_all(self, *commands):
        before = self.twin()
        answers = []
        for position, command in enumerate(commands):
            try:
                answers.append(self.do(command))
            except (TableError, MissingError, StateError, LimitError) as error:
                self.go_on_from(before)
                raise CommandFailed(position) from error
        return answers

    def lines(self):
        return [line for line, _ in self.past]

    def twin(self):
        desk = Desk()
        desk.go_on_from(self)
        return desk

    def go_on_from(self, other):
        """Makes this desk as the other one is; both go on by themselves."""
        self.things = other.things
        self.past = list(other.past)
        self.undone = list(other.undone)

    @classmethod
    def again(cls, lines):
        check_deeds(lines)
        desk = cls()
        for position, line in enumerate(lines):
            try:
                desk.do(line)
            except (TableError, MissingError, StateError, LimitError) as error:
                raise CommandFailed(position) from error
        return desk


def check_deeds(value):
    if not is_listed(value):
        raise InvalidDeeds(None)
    for position, line in enumerate(value):
        if not is_deed(line):
            raise InvalidDeeds(position)
