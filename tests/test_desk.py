"""The desk [171] to [174], held against a desk kept plainly."""

import random
import unittest

from sumroads import errors
from sumroads.desk import Desk
from sumroads.errors import (
    BadText, CommandFailed, InvalidCommand, InvalidDeeds, InvalidMove, InvalidPosition, InvalidPrices, MoveThere, NameTaken, NoMove, NoStep,
    NothingToRedo, NothingToUndo, TooMany, UnknownName, UnlikeModels)
from sumroads.frames import frame_of
from sumroads.parser import parse_model
from tests.desks import PlainDesk
from tests.helpers import Holds, Odd, odd_values

SEX = "model m name sex: f m\nname age: a b\nsum sex\nsum age"
START = [SEX, "table t m f a 1\nm b 1", "empty e m", "put e 1,-1,-1,1", "book b m whole"]
MODELS = ["name sex: f m\nname age: a b\nsum sex\nsum age", "name sex: f m\nname age: a b\nsum sex\nsum age\n", "name a: x y z\ntotal",
          "name a: x y\nname b: x y\nvoid x x\nsum a\nsum b", "name a: x y\nsum a\nsum b", "name a: 1 2 3 4\nname b: 1 2 3 4\nsum a b\ntotal",
          "name a: 1 2 3 4 5\nname b: 1 2 3 4\ntotal", "name a: 1 2 3\ntotal", "x"]
TABLES = ["f a 1\nm b 1", "x 3", "x 1\ny 1\nz 1", "#", "f b 2", "q 1", "x x 1", "y x 1", "f a 01", "1 2"]
CHANGES = ["1,-1,-1,1", "2,-2,-2,2", "1,-1,0", "0,1,-1", "1,0,-1", "1,1,-2", "1,-1", "0,0,0", "-1,1,0", "99,-99,0"]


def telling(error):
    """What an error is, with its attributes, and what it came of."""
    cause = error.__cause__
    return type(error).__name__, vars(error), None if cause is None else telling(cause)


def asked(function, *told):
    """The answer, or what the error tells."""
    try:
        return function(*told)
    except (errors.TableError, errors.MissingError, errors.StateError, errors.LimitError) as error:
        return telling(error)


def things_of(desk):
    return {name: desk[name] for name in desk.names()}


def random_command(draw, names, kept):
    """A command, more often than not of things that are kept; kept: the sorts of these by names."""
    def of(*sorts):
        right = [name for name in sorted(kept) if kept[name][0] in sorts]
        return draw.choice(right if right and draw.random() < 0.9 else names)

    def new():
        free = [name for name in names if name not in kept]
        return draw.choice(free if free and draw.random() < 0.8 else names)

    def book():
        return of("book")

    def table():
        return of("table")

    def anything():
        return of("model", "table", "book")
    return draw.choice([
        lambda: f"model {new()} {draw.choice(MODELS)}", lambda: f"table {new()} {of('model')} {draw.choice(TABLES)}", lambda: f"empty {new()} {of('model')}",
        lambda: f"book {new()} {of('model')} {draw.choice(['whole', 'least', 'unparted'])}", lambda: f"put {book()} {draw.choice(CHANGES)}",
        lambda: f"take {book()} {draw.choice(CHANGES)}", lambda: f"step {table()} {book()} {draw.choice('0001')} {draw.choice(['on', 'off'])}",
        lambda: f"copy {new()} {anything()}", lambda: f"drop {anything()}", lambda: "undo", lambda: "redo", lambda: "names",
        lambda: f"show {anything()}", lambda: f"cells {of('model')}", lambda: f"sums {table()}", lambda: f"lot {table()}", lambda: f"closed {book()} {table()}",
        lambda: f"joined {book()} {table()} {table()}", lambda: f"far {book()} {table()} {table()}", lambda: f"whole {book()}",
        lambda: f"cheapest {table()} {draw.choice(['0,0,0', '1,0,2', '1,2,3,4', '1', '0,1'])}", lambda: f"same {anything()} {anything()}",
        lambda: draw.choice(["show", "put b", "step t b 0 in"])])()


class Desks(Holds, unittest.TestCase):
    def setUp(self):
        self.desk = Desk()

    def started(self):
        self.desk.do_all(*START)
        return self.desk

    def fails(self, command, error, **told):
        """The command fails with this error, and nothing is changed."""
        before = (self.desk.names(), things_of(self.desk), self.desk.lines(), len(self.desk))
        for ask in (self.desk.do, self.desk):
            with self.assertRaises(error) as met:
                ask(command)
            self.assertIs(type(met.exception), error)
            self.assertEqual(vars(met.exception), told)
        self.assertEqual((self.desk.names(), things_of(self.desk), self.desk.lines(), len(self.desk)), before)

    def test_examples(self):
        self.assertEqual(
            self.desk.do_all("model m name sex: f m\nname age: a b\nsum sex\nsum age", "table t m f a 1\nm b 1", "empty e m", "put e 1,-1,-1,1",
                             "step t e 0 off", "show t", "lot t", "whole e", "undo", "show t"),
            ["-", "-", "-", "-", "-", "f b 1\nm a 1\n", "2", "yes", "step t e 0 off", "f a 1\nm b 1\n"])

    def test_long_rows_of_commands_against_the_plain_desk(self):
        met = {}
        for seed in range(12):
            draw = random.Random(seed)
            desk, plain = Desk(), PlainDesk()
            names = ["m", "t", "b", "k", "u", "c", "e"][:draw.randint(4, 7)]
            rows = list(START)
            for at in range(250):
                command = rows[at] if at < len(rows) else random_command(draw, names, plain.kept)
                wanted = asked(plain.do, command)
                told = asked(desk.do if draw.random() < 0.5 else desk, command)
                self.assertEqual(told, wanted, command)
                key = wanted[0] if isinstance(wanted, tuple) else command.split(" ")[0]
                met[key] = met.get(key, 0) + 1
                self.assertEqual(things_of(desk), {name: thing[2] for name, thing in plain.kept.items()})
                self.assertEqual((desk.lines(), len(desk)), ([line for line, _ in plain.deeds], len(plain.deeds)))
                self.assertEqual(desk.names(), sorted(plain.kept))
        wanted = {"NameTaken", "UnknownName", "NothingToRedo", "BadText", "InvalidMove", "MoveThere", "NoMove", "UnlikeModels", "InvalidPosition", "NoStep",
                  "InvalidPrices", "TooMany", "InvalidCommand", "model", "table", "empty", "book", "put", "take", "step", "copy", "drop", "undo", "redo", "names",
                  "show", "cells", "sums", "lot", "closed", "joined", "far", "whole", "cheapest", "same"}
        self.assertLessEqual(wanted, set(met))

    def test_things_by_names(self):
        desk = self.started()
        model = parse_model(START[0][len("model m "):])
        self.assertEqual(desk["m"], model)
        self.assertEqual((desk["t"], desk["e"], desk["b"]), ((1, 0, 0, 1), ((1, -1, -1, 1),), ((1, -1, -1, 1),)))
        self.assertEqual(desk.names(), ["b", "e", "m", "t"])
        self.assertEqual(len(desk), 5)
        for name in ("m", "t", "e", "b"):
            self.assertIs(name in desk, True)
        for value in odd_values() + ["x", "M", ["m"], ("m",), "mt", " m"]:
            if value.__class__ is not str or value != "b":
                self.assertIs(value in desk, False)
                with self.assertRaises(UnknownName) as error:
                    desk[value]
                self.assertIs(error.exception.value, value)
        self.assertEqual((len(Desk()), Desk().names(), Desk().lines()), (0, [], []))
        with self.assertRaises(TypeError):
            list(desk)

    def test_names_of_the_desk(self):
        for name in ("a", "a2345678", "model", "z9", "undo", "name"):
            self.assertEqual(self.desk.do(f"model {name} name a: x\ntotal"), "-")
            self.assertIn(name, self.desk)
        for name in ("a23456789", "1a", "A", "a-b", "", "a_", "\n"):
            self.fails(f"model {name} name a: x\ntotal", InvalidCommand, value=f"model {name} name a: x\ntotal")
        self.assertEqual(self.desk.do("names"), "a a2345678 model name undo z9")

    def test_models(self):
        self.assertEqual(self.desk.do("names"), "-")
        self.desk.do(SEX)
        self.assertEqual(self.desk.do("show m"), "name sex: f m\nname age: a b\nsum sex\nsum age\n")
        self.assertEqual(self.desk.do("cells m"), "f a, f b, m a, m b")
        self.fails("model x name a x\ntotal", BadText, position=7)
        self.fails("model x  name a: x\ntotal y", BadText, position=17)
        self.fails("model m nonsense", NameTaken, name="m")
        self.fails("model x name a: 1 2 3 4 5\nname b: 1 2 3 4\ntotal", TooMany, what="cells", limit=16)
        self.fails("model x name a: 1 2 3 4\nname b: 1 2 3 4\nname c: 1 2 3 4 5\ntotal", TooMany, what="places", limit=64)
        self.fails("model x name a: 1 2 3 4\nname b: 1 2 3 4\nsum a b\ntotal", TooMany, what="rows", limit=16)
        self.desk.do("model x name a: 1 2 3 4\nname b: 1 2 3 4\nsum a b")
        self.assertEqual(len(frame_of(self.desk["x"])[1]), 16)

    def test_tables(self):
        self.started()
        self.assertEqual(self.desk.do("show t"), "f a 1\nm b 1\n")
        self.assertEqual(self.desk.do("sums t"), "sex=f 1\nsex=m 1\nage=a 1\nage=b 1\n")
        self.desk.do("table nought m #")
        self.assertEqual(self.desk.do("show nought"), "-")
        self.assertEqual((self.desk["nought"], self.desk.do("lot nought"), self.desk.do("lot t")), ((0, 0, 0, 0), "1", "2"))
        self.fails("table t x nonsense", NameTaken, name="t")
        self.fails("table u x nonsense", UnknownName, value="x")
        self.fails("table u t f a 1", UnknownName, value="t")
        self.fails("table u m f a 1\nf q 1", BadText, position=8)
        self.fails("table u m f a 20000\nf b 1", TooMany, what="counts", limit=20000)
        self.desk.do_all("table great m f a 20000", "model wide name a: 1 2 3\ntotal", "table w wide 1 6665", "table v wide 1 6666")
        self.assertEqual(self.desk.do("lot w"), str(6667 * 6666 // 2))
        self.fails("lot v", TooMany, what="states", limit=20000)

    def test_books(self):
        self.started()
        self.assertEqual([self.desk.do("show " + name) for name in "eb"], ["1,-1,-1,1", "1,-1,-1,1"])
        self.desk.do_all("model s name a: x y z\ntotal", "book l s least", "book w s whole", "book u s unparted", "empty n s")
        self.assertEqual(self.desk.do("show u"), "0,1,-1\n1,-1,0\n1,0,-1")
        self.assertEqual(self.desk.do("show l"), "0,1,-1\n1,0,-1")
        self.assertEqual((self.desk.do("show n"), self.desk["w"]), ("-", ((0, 1, -1), (1, 0, -1))))
        self.assertEqual([self.desk.do("whole " + name) for name in "luwneb"], ["yes", "yes", "yes", "no", "yes", "yes"])
        self.fails("book u m whole", NameTaken, name="u")
        self.fails("book x y whole", UnknownName, value="y")
        self.fails("book x u whole", UnknownName, value="u")
        # 12 cells have 66 unparted moves, 11 have 55; 16 cells have 120, a square of 4 with told sums of both more than 200.
        self.desk.do("model eleven name a: 1 2 3 4 5 6\nname b: 1 2\nvoid 1 1\ntotal")
        self.desk.do("book p eleven unparted")
        self.assertEqual(len(self.desk["p"]), 55)
        self.desk.do("model twelve name a: 1 2 3 4 5 6\nname b: 1 2\ntotal")
        self.fails("book q twelve unparted", TooMany, what="moves", limit=60)
        self.desk.do("book q twelve whole")
        self.assertEqual(len(self.desk["q"]), 11)
        self.desk.do("model four name a: 1 2 3 4\nname b: 1 2 3 4\nsum a\nsum b")
        self.fails("book r four unparted", TooMany, what="moves", limit=200)

    def test_put_and_take(self):
        self.started()
        self.fails("put e 1,-1,-1,1", MoveThere)
        self.fails("put e 1,-1,-1", InvalidMove, value=(1, -1, -1))
        self.fails("put e -1,1,1,-1", InvalidMove, value=(-1, 1, 1, -1))
        self.fails("put e 0,0,0,0", InvalidMove, value=(0, 0, 0, 0))
        self.fails("take e 1,0,0,0", InvalidMove, value=(1, 0, 0, 0))
        self.fails("take e 2,-2,-2,2", NoMove)
        self.desk.do_all("put e 2,-2,-2,2", "put e 99,-99,-99,99", "take e 1,-1,-1,1")
        self.assertEqual(self.desk["e"], ((2, -2, -2, 2), (99, -99, -99, 99)))
        self.fails("put x 1,-1,-1,1", UnknownName, value="x")
        self.fails("take m 1,-1,-1,1", UnknownName, value="m")
        self.assertEqual((self.desk.do("whole e"), self.desk["b"]), ("no", ((1, -1, -1, 1),)))

    def test_60_moves_and_more(self):
        self.desk.do_all(SEX, "empty e m")
        for number in range(1, 61):
            self.desk.do(f"put e {number},-{number},-{number},{number}")
        self.assertEqual(len(self.desk["e"]), 60)
        self.fails("put e 61,-61,-61,61", TooMany, what="moves", limit=60)
        self.fails("put e 60,-60,-60,60", MoveThere)
        self.fails("put e 61,-61,-61,60", InvalidMove, value=(61, -61, -61, 60))
        self.desk.do_all("take e 1,-1,-1,1", "put e 61,-61,-61,61")

    def test_steps(self):
        desk = self.started()
        self.fails("step t e 0 on", NoStep)
        self.fails("step t e 1 on", InvalidPosition, value=1)
        self.fails("step t e 99 off", InvalidPosition, value=99)
        desk.do("step t e 0 off")
        self.assertEqual(desk["t"], (0, 1, 1, 0))
        self.fails("step t e 0 off", NoStep)
        desk.do("step t e 0 on")
        self.assertEqual(desk["t"], (1, 0, 0, 1))
        desk.do_all("model o name sex: f m\nname age: a b\nsum age\nsum sex", "empty f o", "table u o f a 1")
        self.fails("step t f 0 on", UnlikeModels)
        self.fails("step u e 7 on", UnlikeModels)
        self.fails("step u f 0 on", InvalidPosition, value=0)
        self.fails("step e t 0 on", UnknownName, value="e")
        self.fails("step t m 0 on", UnknownName, value="m")
        self.fails("step x y 0 on", UnknownName, value="x")
        # Models that are equal are alike, whatever their names are.
        desk.do_all("copy k m", "drop m", SEX.replace("model m", "model again"), "empty g again", "put g 1,-1,-1,1", "step t g 0 off")
        self.assertEqual(desk["t"], (0, 1, 1, 0))

    def test_copies_and_drops(self):
        desk = self.started()
        desk.do_all("copy u t", "step u e 0 off", "copy c e", "take c 1,-1,-1,1", "copy n m", "drop m", "drop t")
        self.assertEqual((desk["u"], desk["e"], desk["c"]), ((0, 1, 1, 0), ((1, -1, -1, 1),), ()))
        self.assertEqual(desk.names(), ["b", "c", "e", "n", "u"])
        # What is kept does not hang on other names.
        self.assertEqual((desk.do("lot u"), desk.do("whole e"), desk.do("show u")), ("2", "yes", "f b 1\nm a 1\n"))
        self.fails("copy u t", NameTaken, name="u")
        self.fails("copy x t", UnknownName, value="t")
        self.fails("drop t", UnknownName, value="t")
        self.fails("copy x x", UnknownName, value="x")
        desk.do("copy t u")
        self.assertEqual(desk["t"], (0, 1, 1, 0))

    def test_other_commands(self):
        desk = self.started()
        desk.do_all("table u m f b 1\nm a 1", "table v m f a 2", "empty n m", "table w m f a 1\nf b 1")
        self.assertEqual([desk.do(command) for command in ("closed e t", "closed n t", "joined e t u", "joined n t u", "joined e t v", "far e t u", "far n t u",
                                                           "far n t t", "joined n t t")],
                         ["2", "1", "yes", "no", "no", "1", "-", "0", "yes"])
        self.assertEqual([desk.do(command) for command in ("same t t", "same t u", "same e b", "same e n", "same m m")], ["yes", "no", "yes", "no", "yes"])
        self.assertEqual(desk.do("cheapest t 0,1,1,0"), "f a 1\nm b 1\n")
        self.assertEqual(desk.do("cheapest t 1,0,0,0"), "f b 1\nm a 1\n")
        desk.do("table nought m #")
        self.assertEqual(desk.do("cheapest nought 1,2,3,4"), "-")
        self.fails("cheapest t 1,2,3", InvalidPrices, value=(1, 2, 3))
        self.fails("cheapest t 1,2,3,4,5", InvalidPrices, value=(1, 2, 3, 4, 5))
        self.fails("cheapest e 1,2,3,4", UnknownName, value="e")
        for command in ("closed t e", "joined t e u", "far t e u", "whole t"):
            self.fails(command, UnknownName, value="t")
        for command, value in (("closed e x", "x"), ("joined e t x", "x"), ("far e x y", "x"), ("show x", "x"), ("cells t", "t"), ("sums m", "m"), ("lot e", "e"),
                               ("same t e", "e"), ("same x t", "x"), ("same x y", "x"), ("same m t", "t"), ("same e m", "m")):
            self.fails(command, UnknownName, value=value)
        self.assertEqual(len(desk), 10)

    def test_same_things_of_unlike_models(self):
        self.desk.do_all("model m name a: x y\ntotal", "model k name b: x y\ntotal", "table t m x 1", "table u k x 1", "empty e m", "empty f k")
        self.assertEqual((self.desk["t"], self.desk["e"]), (self.desk["u"], self.desk["f"]))
        self.assertEqual([self.desk.do(command) for command in ("same t u", "same e f", "same m k", "same t t")], ["no", "no", "no", "yes"])
        for command in ("closed e u", "joined e t u", "joined e u t", "joined f t t", "far e t u", "far e u u"):
            self.fails(command, UnlikeModels)
        self.desk.do_all("copy l m", "table v l x 1")
        self.assertEqual(self.desk.do("same t v"), "yes")

    def test_great_closed_lots_and_books(self):
        self.desk.do_all("model m name a: x y\ntotal", "table t m x 1999", "table u m x 2000", "book b m whole", "empty e m")
        self.assertEqual((self.desk.do("closed b t"), self.desk.do("closed e u"), self.desk.do("lot u")), ("2000", "1", "2001"))
        for command in ("closed b u", "joined b u t", "far b u u"):
            self.fails(command, TooMany, what="tables", limit=2000)
        self.assertEqual(self.desk.do("joined b t u"), "no")

    def test_undo_and_redo(self):
        desk = self.desk
        self.fails("undo", NothingToUndo)
        self.fails("redo", NothingToRedo)
        self.started()
        kept = [things_of(desk)]
        for at in range(5, 0, -1):
            self.assertEqual(desk.do("undo"), START[at - 1])
            self.assertEqual((len(desk), desk.lines()), (at - 1, START[:at - 1]))
            kept.append(things_of(desk))
        self.assertEqual(kept[-1], {})
        self.fails("undo", NothingToUndo)
        for at in range(5):
            self.assertEqual(desk.do("redo"), START[at])
            self.assertEqual(things_of(desk), kept[4 - at])
        self.fails("redo", NothingToRedo)
        desk.do_all("undo", "undo", "show e", "names")
        # Other commands, and deeds that fail, leave what can be done again.
        self.fails("drop x", UnknownName, value="x")
        self.assertEqual(desk.do("redo"), START[3])
        desk.do("drop t")
        self.fails("redo", NothingToRedo)
        self.assertEqual(desk.lines(), START[:4] + ["drop t"])

    def test_do_all_that_fails_at_each_position(self):
        rows = START + ["undo", "redo", "step t e 0 off", "show t"]
        for at in range(len(rows) + 1):
            for wrong, error in (("drop x", UnknownName), ("nonsense", InvalidCommand), (7, InvalidCommand), ("redo", NothingToRedo), ("put e 1,-1", None)):
                desk = Desk()
                desk.do_all(*START, "drop b", "undo")
                desk.do_all("undo", "undo", "undo", "undo", "undo")
                before = (things_of(desk), desk.lines(), len(desk))
                if wrong == "redo" and at in (0, 6):
                    continue
                with self.assertRaises(CommandFailed) as met:
                    desk.do_all(*rows[:at], wrong, *rows[at:])
                self.assertEqual(met.exception.position, at)
                cause = met.exception.__cause__
                self.assertTrue(error is None or type(cause) is error)
                self.assertEqual((things_of(desk), desk.lines(), len(desk)), before)
                # What can be done again is as it was, too.
                self.assertEqual([desk.do("redo") for _ in range(6)], START + ["drop b"])
        self.assertEqual(Desk().do_all(), [])
        with self.assertRaises(CommandFailed) as met:
            Desk().do_all("names", "drop x")
        self.assertEqual(met.exception.__cause__.value, "x")

    def test_twins_go_on_by_themselves(self):
        desk = self.started()
        desk.do("undo")
        twin = desk.twin()
        self.assertIsInstance(twin, Desk)
        self.assertEqual((things_of(twin), twin.lines(), len(twin)), (things_of(desk), desk.lines(), len(desk)))
        twin.do_all("redo", "drop t", "undo", "undo", "undo")
        self.assertEqual((desk.names(), twin.names(), len(desk), len(twin)), (["e", "m", "t"], ["e", "m", "t"], 4, 3))
        self.assertEqual(desk.do("redo"), START[4])
        self.assertEqual([twin.do("redo") for _ in range(3)], START[3:] + ["drop t"])
        third = twin.twin().twin()
        third.do("drop m")
        self.assertIn("m", twin)
        self.assertEqual((len(third), len(twin)), (7, 6))
        desk.do("drop b")
        self.assertNotIn("t", twin)
        self.assertEqual(desk.names(), ["e", "m", "t"])

    def test_again_makes_the_same_desk(self):
        for seed in range(20, 26):
            draw = random.Random(seed)
            desk, plain = Desk(), PlainDesk()
            for at in range(80):
                command = START[at] if at < len(START) else random_command(draw, ["m", "t", "b", "k"], plain.kept)
                asked(plain.do, command)
                asked(desk.do, command)
            for lines in (desk.lines(), tuple(desk.lines())):
                again = Desk.again(lines)
                self.assertIsInstance(again, Desk)
                self.assertEqual((things_of(again), again.lines(), len(again)), (things_of(desk), desk.lines(), len(desk)))
                self.assertEqual(asked(again.do, "redo")[0], "NothingToRedo")
        self.assertEqual(Desk.again(lines=[]).names(), [])

    def test_again_of_what_is_wrong(self):
        for value in (None, True, 0, "drop x", "", b"", {}, {"drop x"}, Odd(), object(), range(2)):
            with self.assertRaises(InvalidDeeds) as met:
                Desk.again(value)
            self.assertIs(met.exception.position, None)
        for wrong in (None, True, 1, "undo", "show m", "nonsense", "", b"drop t", ["drop t"], Odd(), "drop t "):
            for at in range(len(START) + 1):
                with self.assertRaises(InvalidDeeds) as met:
                    Desk.again(START[:at] + [wrong] + START[at:] + [None])
                self.assertEqual(met.exception.position, at)
        for wrong, cause in (("drop x", UnknownName), ("model m x", None), ("put e 1,-1", None), ("book z m unparted x", None)):
            for at in range(1, len(START) + 1):
                with self.assertRaises((CommandFailed, InvalidDeeds)) as met:
                    Desk.again(START[:at] + [wrong] + START[at:])
                self.assertEqual(met.exception.position, at)
                self.assertTrue(cause is None or type(met.exception.__cause__) is cause)
        with self.assertRaises(InvalidDeeds) as met:
            Desk.again(["drop x", "show x"])
        self.assertEqual(met.exception.position, 1)

    def test_16_names_and_more(self):
        self.desk.do(SEX)
        for at in range(15):
            self.desk.do(f"copy a{at} m")
        self.assertEqual((len(self.desk.names()), self.desk.do("names").count(" ")), (16, 15))
        for command in ("copy x m", "empty x m", "table x m f a 1", "book x m whole", SEX.replace("model m", "model x")):
            self.fails(command, TooMany, what="names", limit=16)
        self.fails("copy x y", UnknownName, value="y")
        self.fails("copy m y", NameTaken, name="m")
        self.fails("table x m f q 1", BadText, position=2)
        self.desk.do_all("drop a0", "copy x m")
        self.assertEqual(len(self.desk.names()), 16)

    def test_200_deeds_and_more(self):
        desk = self.desk
        desk.do_all(SEX, "table t m f a 1\nm b 1", "empty e m", "put e 1,-1,-1,1")
        desk.do_all(*["step t e 0 off", "step t e 0 on"] * 98)
        self.assertEqual((len(desk), len(desk.lines())), (200, 200))
        for command in ("step t e 0 off", "drop t", "copy x t", "put e 2,-2,-2,2"):
            self.fails(command, TooMany, what="deeds", limit=200)
        self.fails("step t e 0 on", NoStep)
        self.fails("drop x", UnknownName, value="x")
        self.assertEqual(desk.do("show t"), "f a 1\nm b 1\n")
        self.assertEqual(desk.do("undo"), "step t e 0 on")
        self.assertEqual(desk.do("redo"), "step t e 0 on")
        desk.do("undo")
        self.assertEqual(desk.do("copy x t"), "-")
        self.fails("drop x", TooMany, what="deeds", limit=200)
        again = Desk.again(desk.lines())
        self.assertEqual((again.names(), len(again)), (desk.names(), 200))
        with self.assertRaises(CommandFailed) as met:
            Desk.again(desk.lines() + ["drop x"])
        self.assertEqual((met.exception.position, telling(met.exception.__cause__)[:2]), (200, ("TooMany", {"what": "deeds", "limit": 200})))
        with self.assertRaises(CommandFailed) as met:
            again.do_all("undo", "drop e", "drop t")
        self.assertEqual((met.exception.position, len(again), again.do("names")), (2, 200, "e m t x"))

    def test_names_are_told_ahead_of_deeds(self):
        desk = self.desk
        desk.do(SEX)
        desk.do_all(*[f"copy a{at} m" for at in range(15)])
        desk.do_all(*["drop a0", "copy a0 m"] * 92)
        self.assertEqual((len(desk), len(desk.names())), (200, 16))
        self.fails("copy x m", TooMany, what="names", limit=16)
        self.fails("drop a0", TooMany, what="deeds", limit=200)

    def test_invalid_commands(self):
        for value in odd_values() + ["", "undo ", "names x", "show", "put e 1,-0", "drop  x", "Undo"]:
            for ask in (self.desk.do, self.desk):
                with self.assertRaises(InvalidCommand) as met:
                    ask(value)
                self.assertIs(met.exception.value, value)
        self.assertEqual(self.desk.do(command="names"), "-")
        self.assertEqual(self.desk(command="names"), "-")

    def test_steps_keep_sums_and_joined_tells_whether_some_row_of_steps_leads_there(self):
        desk = Desk()
        desk.do_all("model m name a: x y z\ntotal", "table t m x 2\ny 1", "copy u t", "book b m unparted", "empty e m", "put e 0,1,-1")
        draw = random.Random(9)
        for _ in range(60):
            asked(desk.do, f"step u b {draw.randrange(3)} {draw.choice(['on', 'off'])}")
            self.assertEqual(desk.do("sums u"), desk.do("sums t"))
            self.assertEqual(desk.do("joined b t u"), "yes")
            self.assertEqual(desk.do("joined e t u"), "yes" if desk["u"][0] == 2 else "no")

    def test_lists_are_new(self):
        desk = self.started()
        for told in (desk.names, desk.lines):
            first = told()
            first.append("spoiled")
            self.assertEqual(told(), first[:-1])
        lines = desk.lines()
        again = Desk.again(lines)
        lines.append("drop t")
        self.assertEqual(again.lines(), lines[:-1])
        answers = desk.do_all("names", "show t")
        answers.append("spoiled")
        self.assertEqual(desk.do_all("names", "show t"), answers[:-1])
