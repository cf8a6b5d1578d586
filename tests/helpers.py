"""What several tests share: wrong values, errors held to their values, plain listings."""

import copy
import itertools


class Odd:
    """A value of no kind that the package knows, and that must never be compared."""

    def __eq__(self, other):
        raise AssertionError("an odd value was compared")

    def __hash__(self):
        raise AssertionError("an odd value was hashed")


def odd_values():
    """Values that are nothing of what the document tells, wherever they are passed."""
    return [
        None, True, False, 0, 1, -1, 10 ** 25, "", "frame", "a", b"a", [], (), {}, {1: 2}, {1, 2},
        frozenset(), Odd(), object(), int, len, [None], (None,), ((),), [[]], ([1],), (True,), (False, 0),
        ("frame",), ("frame", ()), ("frame", 0), ("model", (), (), ()), ("order", ()), (Odd(), Odd()), [Odd()],
        (0, "1"), ((0, 1), [0, 1]), "(0, 1)", ((True, 1),), range(3), lambda: 0,
    ]


class Holds:
    """Mixed into test cases."""

    def refuses(self, function, good, name, error, wrong):
        """Each wrong value of this name is told by the error, by place and by name."""
        for value in wrong:
            told = dict(good)
            told[name] = value
            for by_name in (False, True):
                with self.subTest(function=function.__name__, name=name, by_name=by_name):
                    caught = self.error_of(function, told, by_name)
                    self.assertIs(type(caught), error)
                    self.assertIs(caught.value, value)

    def error_of(self, function, told, by_name=False):
        try:
            result = function(**told) if by_name else function(*told.values())
        except Exception as error:
            return error
        self.fail(f"{function.__name__} raised nothing, but returned {result!r}")

    def first_refused(self, function, good, wrongs):
        """Of several wrong parameters the one that is listed first is told.

        wrongs: tuples (name, wrong value, error) in the sequence of the parameters; the
        errors of the further ones are those that come alone.
        """
        for first, second in itertools.combinations(wrongs, 2):
            told = dict(good)
            told[first[0]] = first[1]
            told[second[0]] = second[1]
            caught = self.error_of(function, told)
            self.assertIs(type(caught), first[2], (function.__name__, first[0], second[0]))
            self.assertIs(caught.value, first[1])
            told[first[0]] = good[first[0]]
            self.assertIs(type(self.error_of(function, told)), second[2])

    def too_many(self, what, limit, function, *told):
        from sumroads.errors import TooMany
        caught = self.error_of(function, dict(enumerate(told)))
        self.assertIs(type(caught), TooMany, caught)
        self.assertEqual((caught.what, caught.limit), (what, limit))

    def kept_and_new(self, function, *told):
        """No argument is changed, and what is returned is equal and new at each call."""
        before = copy.deepcopy(told)
        first = function(*told)
        self.assertEqual(before, told)
        wanted = copy.deepcopy(first)
        spoil(first)
        second = function(*told)
        self.assertEqual(second, wanted)
        self.assertEqual(before, told)
        return second

    def asks(self, function, *told, right=(), wrong=()):
        """A function that tells of any value as its last argument whether it is something."""
        for value in right:
            self.assertIs(function(*told, value), True, value)
        for value in wrong:
            self.assertIs(function(*told, value), False)


def spoil(value):
    """Changes all lists in a value."""
    if isinstance(value, (list, tuple)):
        for part in value:
            spoil(part)
    if isinstance(value, list):
        value.append("spoiled")


def sums_plainly(frame, table):
    return tuple(sum(a * b for a, b in zip(row, table)) for row in frame[1])


def lot_plainly(frame, sums):
    """All tables with these sums, by trying all counts that no row bars alone."""
    rows = frame[1]
    ranges = []
    for cell in range(len(rows[0])):
        most = min(total // row[cell] for row, total in zip(rows, sums) if row[cell])
        ranges.append(range(most + 1))
    return [table for table in itertools.product(*ranges) if sums_plainly(frame, table) == tuple(sums)]


def random_frame(draw, cells, rows, most):
    while True:
        told = tuple(tuple(draw.choice([0, draw.randint(0, most)]) for _ in range(cells)) for _ in range(rows))
        if all(any(row[cell] for row in told) for cell in range(cells)):
            return ("frame", told)


SQUARE = ("frame", ((1, 1, 0, 0), (0, 0, 1, 1), (1, 0, 1, 0), (0, 1, 0, 1)))
COINS = ("frame", ((1, 1, 1), (1, 2, 3)))
TOTAL = ("frame", ((1, 1, 1),))
BROAD = ("frame", (tuple([1] * 16),))
HIGH = ("frame", tuple(tuple(int(at == cell) for at in range(16)) for cell in range(16)))
WRONG_FRAMES = [
    ("frame", [(1, 1)]), ["frame", ((1, 1),)], ("frame", ((1, 1), (1,))), ("frame", ((1, 0), (1, 0))),
    ("frame", ((0, 10),)), ("frame", ((1, -1), (0, 2))), ("frame", ((1, True),)), ("frame", ((True, 1),)),
    ("frame", ([1, 1],)), ("frame", ((1, 1), [1, 1])), ("frame", ((),)), ("frame", ()),
    ("Frame", ((1,),)), ("frame", ((1,),), ()),
    ("frame", (tuple([1] * 17),)), ("frame", tuple([(1,)] * 17)), ("frame", ((1, "1"),)), ("frame", ((0,),)),
    (Odd(), ((1,),)), ("frame", (Odd(),)), ("frame", ((Odd(),),)), ("frame", ((1, None),)),
]
