"""A desk kept plainly, by the words of the document, for the tests alone."""

from sumroads import (
    cheapest, closedlots, counting, deciding, errors, frames, leastbooks, lots, moves, parser, prices, printer, roads, unparted, wholebooks)
from sumroads.commands import is_command, is_deed


class PlainDesk:
    """Keeps everything again for each deed, so that nothing can go wrong by being shared."""

    def __init__(self):
        self.kept, self.deeds, self.back = {}, [], []

    def thing(self, name, *sorts):
        if name not in self.kept or self.kept[name][0] not in sorts:
            raise errors.UnknownName(name)
        return self.kept[name]

    def new(self, name):
        if name in self.kept:
            raise errors.NameTaken(name)

    def do(self, command):
        if not is_command(command):
            raise errors.InvalidCommand(command)
        word, _, rest = command.partition(" ")
        answer = getattr(self, "do_" + word)(*rest.split(" ", {"model": 1, "table": 2}.get(word, -1)) if rest else ())
        if not is_deed(command):
            return answer
        if len(answer) > 16:
            raise errors.TooMany("names", 16)
        if len(self.deeds) == 200:
            raise errors.TooMany("deeds", 200)
        self.deeds.append((command, dict(self.kept)))
        self.kept, self.back = answer, []
        return "-"

    def do_model(self, new, text):
        self.new(new)
        model = parser.parse_model(text)
        frames.frame_of(model)
        return dict(self.kept, **{new: ("model", model, model)})

    def do_table(self, new, model, text):
        self.new(new)
        model = self.thing(model, "model")[1]
        return dict(self.kept, **{new: ("table", model, parser.parse_table(model, text))})

    def do_empty(self, new, model):
        self.new(new)
        return dict(self.kept, **{new: ("book", self.thing(model, "model")[1], ())})

    def do_book(self, new, model, kind):
        self.new(new)
        model = self.thing(model, "model")[1]
        frame = frames.frame_of(model)
        book = {"whole": wholebooks.whole_book, "least": leastbooks.least_book, "unparted": unparted.unparted}[kind](frame)
        if len(book) > 60:
            raise errors.TooMany("moves", 60)
        return dict(self.kept, **{new: ("book", model, tuple(book))})

    def move(self, book, change):
        _, model, kept = self.thing(book, "book")
        value = tuple(int(word) for word in change.split(","))
        if not moves.is_move(frames.frame_of(model), value):
            raise errors.InvalidMove(value)
        return model, kept, value

    def do_put(self, book, change):
        model, kept, move = self.move(book, change)
        if move in kept:
            raise errors.MoveThere()
        if len(kept) == 60:
            raise errors.TooMany("moves", 60)
        return dict(self.kept, **{book: ("book", model, tuple(sorted(kept + (move,))))})

    def do_take(self, book, change):
        model, kept, move = self.move(book, change)
        if move not in kept:
            raise errors.NoMove()
        return dict(self.kept, **{book: ("book", model, tuple(sorted(set(kept) - {move})))})

    def do_step(self, table, book, count, sign):
        _, model, here = self.thing(table, "table")
        _, other, kept = self.thing(book, "book")
        if model != other:
            raise errors.UnlikeModels()
        if int(count) >= len(kept):
            raise errors.InvalidPosition(int(count))
        by = 1 if sign == "on" else -1
        there = tuple(a + by * b for a, b in zip(here, kept[int(count)]))
        if min(there) < 0:
            raise errors.NoStep()
        return dict(self.kept, **{table: ("table", model, there)})

    def do_copy(self, new, name):
        self.new(new)
        return dict(self.kept, **{new: self.thing(name, "model", "table", "book")})

    def do_drop(self, name):
        self.thing(name, "model", "table", "book")
        return {other: thing for other, thing in self.kept.items() if other != name}

    def do_undo(self):
        if not self.deeds:
            raise errors.NothingToUndo()
        line, kept = self.deeds.pop()
        self.back.append((line, self.kept))
        self.kept = kept
        return line

    def do_redo(self):
        if not self.back:
            raise errors.NothingToRedo()
        line, kept = self.back.pop()
        self.deeds.append((line, self.kept))
        self.kept = kept
        return line

    def do_names(self):
        return " ".join(sorted(self.kept)) or "-"

    def do_show(self, name):
        sort, model, what = self.thing(name, "model", "table", "book")
        if sort == "model":
            return printer.model_text(what)
        if sort == "table":
            return printer.table_text(model, what) or "-"
        return "\n".join(",".join(str(number) for number in move) for move in what) or "-"

    def do_cells(self, model):
        model = self.thing(model, "model")[1]
        return ", ".join(printer.cell_name(model, at) for at in range(len(frames.frame_of(model)[1][0])))

    def do_sums(self, table):
        _, model, what = self.thing(table, "table")
        return printer.sums_text(model, lots.sums_of(frames.frame_of(model), what))

    def do_lot(self, table):
        _, model, what = self.thing(table, "table")
        frame = frames.frame_of(model)
        return str(counting.lot_count(frame, lots.sums_of(frame, what)))

    def alike(self, book, *tables):
        found = [self.thing(book, "book")] + [self.thing(table, "table") for table in tables]
        if len({thing[1] for thing in found}) > 1:
            raise errors.UnlikeModels()
        return [frames.frame_of(found[0][1])] + [thing[2] for thing in found]

    def do_closed(self, book, table):
        return str(len(closedlots.closed_lot(*self.alike(book, table))))

    def do_joined(self, book, table, other):
        return "yes" if roads.are_joined(*self.alike(book, table, other)) else "no"

    def do_far(self, book, table, other):
        many = roads.distance(*self.alike(book, table, other))
        return "-" if many is None else str(many)

    def do_whole(self, book):
        _, model, what = self.thing(book, "book")
        return "yes" if deciding.is_whole_book(frames.frame_of(model), what) else "no"

    def do_cheapest(self, table, told):
        _, model, what = self.thing(table, "table")
        frame = frames.frame_of(model)
        value = tuple(int(word) for word in told.split(","))
        if not prices.is_prices(frame, value):
            raise errors.InvalidPrices(value)
        return printer.table_text(model, cheapest.cheapest(frame, what, value)) or "-"

    def do_same(self, name, other):
        one = self.thing(name, "model", "table", "book")
        return "yes" if self.thing(other, one[0])[1:] == one[1:] else "no"
