"""Claims and the judge [161] to [164], held against a judge written again by the words."""

import unittest

from sumroads.deciding import decided
from sumroads.errors import InvalidBook, InvalidFrame, InvalidPaper
from sumroads.judge import claim_of, is_claim, judged
from sumroads.kernels import basis
from sumroads.papers import is_paper
from sumroads.symmetries import is_symmetry
from tests.claiming import PARTS, is_claim_plainly, judged_plainly, symmetry_rows
from tests.claims import otherwise, part_at, places_in, true_claims, with_part
from tests.helpers import BROAD, COINS, Holds, Odd, SQUARE, TOTAL, WRONG_FRAMES, odd_values
from tests.test_papers import BOOK, ROADS, RULES, SHOP
from tests.test_roads import WRONG_BOOKS
from tests.test_symmetries import led_plainly

ROAD = ((0, 2, 0), (2, 1, 0), (1, 0, 1))
PAIR, ONE_UP = ("frame", ((1, 1),)), ((1, -1),)
WHOLE = ("whole", SHOP, BOOK, RULES, ROADS)
PARTED = ("parted", SHOP, BOOK[1:], (0, 0, 1), (1, 1, 0), ((0, 0, 1),))


def nested(depth):
    """A tuple that is nested so deep."""
    value = ()
    for _ in range(depth - 1):
        value = (value,)
    return value


class Judge(Holds, unittest.TestCase):
    def test_examples(self):
        self.assertEqual(
            [judged(("road", SHOP, BOOK, ROAD)), judged(("road", SHOP, BOOK, ROAD[::2])), judged(("road", SHOP, BOOK, ())),
             judged(("straight", SHOP, ROAD)), judged(None)], [("ok", "road"), ("bad", (1,)), ("bad", ()), ("bad", (1,)), ("bad", ())])
        self.assertEqual(
            [judged(("symmetry", ("frame", ((1, 1),)), (1, 0), (((1, 1),),))), judged(("falls", SHOP, ("order", (0, 0, 0)), ROAD[1:])),
             is_claim(("road", 1, 2, 3)), claim_of(SHOP, BOOK, ("parted", 1, 2, ()))],
            [("ok", "symmetry"), ("ok", "falls"), True, ("parted", ("frame", ((1, 2, 3),)), ((1, 1, -1), (2, -1, 0)), 1, 2, ())])

    def check(self, claim):
        told = judged(claim)
        self.assertEqual(told, judged_plainly(claim), claim)
        self.assertIs(is_claim(claim), is_claim_plainly(claim))
        return told

    def test_true_claims_are_taken(self):
        words = dict.fromkeys(PARTS, 0)
        for _, claims in true_claims(1, 120):
            for claim in claims:
                self.assertEqual(self.check(claim), ("ok", claim[0]))
                words[claim[0]] += 1
        self.assertGreater(min(words.values()), 20)

    def test_claims_with_one_thing_otherwise(self):
        told = {}
        for draw, claims in true_claims(2, 60):
            for claim in claims:
                places = list(places_in(claim))
                for place in draw.sample(places, min(len(places), 12)):
                    for part in otherwise(draw, part_at(claim, place)):
                        answer = self.check(with_part(claim, place, part))
                        told.setdefault(claim[0], set()).add((answer[0], len(answer[1]) if answer[0] == "bad" else 0))
        for word, answers in told.items():
            self.assertLessEqual({("ok", 0), ("bad", 0)} if word in ("whole", "sum") else {("ok", 0), ("bad", 0), ("bad", 1)}, answers, word)

    def test_the_first_wrong_position_of_roads(self):
        book = ((1, -1),)
        line = tuple((count, 5 - count) for count in range(6))
        self.assertEqual(judged(("road", PAIR, book, line)), ("ok", "road"))
        for at in range(1, 6):
            jump = line[:at] + line[at - 1:at] + line[at:]
            self.assertEqual(judged(("road", PAIR, book, jump)), ("bad", (at,)))
            self.assertEqual(judged(("straight", PAIR, jump)), ("bad", (at,)))
            self.assertEqual(judged(("falls", PAIR, ("order", (0, 1)), jump)), ("bad", (at,)))
            if at < 5:
                self.assertEqual(judged(("road", PAIR, book, line[:at] + line[at + 1:])), ("bad", (at,)))
                self.assertEqual(judged(("straight", PAIR, line[:at] + line[at + 1:])), ("ok", "straight"))
                self.assertEqual(judged(("falls", PAIR, ("order", (0, 1)), line[:at] + line[at + 1:])), ("ok", "falls"))
            unlike = line[:at] + ((9, 9),) + line[at + 1:]
            self.assertEqual(judged(("road", PAIR, book, unlike)), ("bad", (at,)))
            self.assertEqual(judged(("straight", PAIR, unlike)), ("bad", ()))
            self.assertEqual(judged(("falls", PAIR, ("order", (0, 1)), unlike)), ("bad", ()))
        self.assertEqual(judged(("falls", PAIR, ("order", (1, 0)), line)), ("bad", (1,)))
        self.assertEqual(judged(("straight", PAIR, line[:3] + line[1:2])), ("bad", (2,)))

    def test_whole_claims(self):
        self.assertEqual(judged(WHOLE), ("ok", "whole"))
        for at in range(len(ROADS)):
            for road in (ROADS[at][1:], ROADS[at][:1], (), ROADS[at] + ROADS[at][-1:], ROADS[at][::-1], ROADS[at - 1]):
                self.assertEqual(judged(("whole", SHOP, BOOK, RULES, ROADS[:at] + (road,) + ROADS[at + 1:])), ("bad", (at,)))
            self.assertEqual(judged(("whole", SHOP, BOOK, RULES, ROADS[:at] + ROADS[at + 1:])), ("bad", ()))
            self.assertEqual(judged(("whole", SHOP, BOOK, RULES, ROADS[:at] + (list(ROADS[at]),) + ROADS[at + 1:])), ("bad", ()))
        self.assertEqual(judged(("whole", SHOP, BOOK, RULES, ROADS + ROADS[:1])), ("bad", ()))
        self.assertEqual(judged(("whole", SHOP, (), RULES, ROADS)), ("bad", (0,)))
        self.assertEqual(judged(("whole", SHOP, BOOK[:1], RULES, ROADS)), ("bad", (0,)))
        self.assertEqual(judged(("whole", SHOP, BOOK[1:], RULES, ROADS)), ("bad", (0,)))
        # Both the second and the third road are none.
        self.assertEqual(judged(("whole", SHOP, BOOK, RULES, ROADS[:1] + ((), ()))), ("bad", (1,)))
        # Sums, starts, overlaps, and a count above 20,000 that is met, come first.
        for rules in (RULES[1:], RULES[:3], RULES[::-1], RULES + RULES[-1:], ()):
            self.assertEqual(judged(("whole", SHOP, BOOK, rules, ())), ("bad", ()))
        one = ("frame", ((1, 1),))
        great = (((0, 1, 0), (0, 0, 20000)), ((0, 2, 0), (0, 0, 0)), ((1, 0, 0), (0, 0, 1)))
        self.assertEqual(self.check(("whole", one, (), great, ((), ()))), ("bad", ()))

    def test_parted_claims(self):
        self.assertEqual(judged(PARTED[:2] + (BOOK[:1],) + PARTED[3:]), ("bad", (0,)))
        self.assertIs(is_paper(SHOP, BOOK[1:], PARTED[:1] + PARTED[3:]), True)
        self.assertEqual(judged(PARTED), ("ok", "parted"))
        line = tuple((count, 6 - count) for count in range(7))
        double = ((2, -2),)
        good = ("parted", PAIR, double, line[0], line[1], line[::2])
        self.assertEqual(self.check(good), ("ok", "parted"))
        for at in range(4):
            closed = line[::2][:at] + line[::2][at + 1:]
            wanted = () if at == 0 else (at - 1,)
            self.assertEqual(self.check(good[:5] + (closed,)), ("bad", wanted))
        for closed in (line[::2][::-1], line[::2] + line[6:], (), line, [line[0]]):
            self.assertEqual(self.check(good[:5] + (closed,)), ("bad", ()))
        self.assertEqual(self.check(good[:4] + ((0, 5), line[::2])), ("bad", ()))
        # Other tables may stand in closed, too, if no move leads out.
        self.assertEqual(self.check(good[:5] + (tuple(sorted(line[::2] + ((0, 1),))),)), ("ok", "parted"))

    def test_ceilings_claims(self):
        two = ((0, 1, -1), (1, -1, 0))
        good = ("ceilings", TOTAL, two, (1, 0, 1), (1, 0, 0), (0, 0, 1), ((1, 0, 0),))
        self.assertEqual(self.check(good), ("ok", "ceilings"))
        self.assertEqual(self.check(good[:3] + ((1, 1, 1),) + good[4:]), ("bad", (0,)))
        self.assertEqual(self.check(good[:2] + (((0, 1, -1), (1, -1, 0), (1, 0, -1)),) + good[3:]), ("bad", (0,)))
        for ceilings in ((0, 0, 1), (1, 0, 0), (1, 0), [1, 0, 1], (1, 0, 20001), (1, 0, True), (1, 0, -1)):
            self.assertEqual(self.check(good[:3] + (ceilings,) + good[4:]), ("bad", ()))
        self.assertEqual(self.check(good[:6] + (((0, 1, 0), (1, 0, 0)),)), ("bad", ()))
        self.assertEqual(self.check(good[:5] + ((0, 0, 2), ((1, 0, 0),))), ("bad", ()))
        self.assertEqual(self.check(good[:3] + ((20000, 0, 20000),) + good[4:]), ("ok", "ceilings"))

    def test_sum_claims(self):
        good = ("sum", TOTAL, (1, 1, -2), ((1, 0, -1), (0, 1, -1)))
        self.assertEqual(self.check(good), ("ok", "sum"))
        self.assertEqual(self.check(("sum", TOTAL, (0, 0, 0), ())), ("ok", "sum"))
        self.assertEqual(self.check(("sum", TOTAL, (1, 1, -2), ((1, 1, -2),))), ("ok", "sum"))
        self.assertEqual(self.check(("sum", TOTAL, (1, 1, -2), good[3] + ((1, -1, 0), (-1, 1, 0)))), ("bad", (2,)))
        self.assertEqual(self.check(("sum", TOTAL, (1, 1, -2), ((1, -1, 0), (0, 2, -2)))), ("bad", (0,)))
        for parts in (good[3][:1], good[3] + ((0, 0, 0),), ((1, 0, -1), (0, 1, 0)), (), list(good[3]), ((1, 1, -2), (0, 0, 0))):
            self.assertEqual(self.check(good[:3] + (parts,)), ("bad", ()))
        great = 10 ** 29
        self.assertEqual(self.check(("sum", PAIR, (great, -great), ((great - 1, 1 - great), (1, -1)))), ("ok", "sum"))
        self.assertEqual(self.check(("sum", PAIR, (10 * great, -10 * great), ((10 * great, -10 * great),))), ("bad", ()))

    def test_symmetry_claims(self):
        flip = ((0, 1), (1, 0), (0, 1))
        self.assertEqual(self.check(("symmetry", COINS, (2, 1, 0), symmetry_rows(COINS, (2, 1, 0)))), ("ok", "symmetry"))
        self.assertIs(symmetry_rows(COINS, (1, 0, 2)), None)
        rows = symmetry_rows(COINS, (2, 1, 0))
        self.assertEqual(rows, (((1, 1), (0, 1)), ((4, 1), (-1, 1))))
        self.assertEqual(self.check(("symmetry", COINS, (2, 1, 0), (rows[0], ((4, 1), (1, 1))))), ("bad", (1,)))
        self.assertEqual(self.check(("symmetry", COINS, (2, 1, 0), rows[::-1])), ("bad", (0,)))
        for other in (rows[:1], rows + rows[:1], (rows[0], ((4, 1),)), (rows[0], ((8, 2), (-1, 1))), (rows[0], ((4, 1), (1, -1))), (flip, flip)):
            self.assertEqual(self.check(("symmetry", COINS, (2, 1, 0), other)), ("bad", ()))
        for exchange in ((2, 1), (2, 1, 1), [2, 1, 0], (2, True, 0), (3, 1, 0)):
            self.assertEqual(self.check(("symmetry", COINS, exchange, rows)), ("bad", ()))
        # Of a third of a row: (3, 3) is a row whose third part twice is (2, 2).
        frame = ("frame", ((3, 3), (2, 2)))
        self.assertEqual(self.check(("symmetry", frame, (1, 0), (((1, 1), (0, 1)), ((2, 3), (0, 1))))), ("ok", "symmetry"))
        done = 0
        for draw, claims in true_claims(3, 40):
            for claim in claims:
                if claim[0] == "symmetry":
                    self.assertIs(is_symmetry(claim[1], claim[2]), True)
                    self.assertTrue(all(not any(sum(a * b for a, b in zip(row, led_plainly(claim[2], change))) for row in claim[1][1])
                                        for change in basis(claim[1])))
                    done += 1
        self.assertEqual(done, 40)

    def test_tree_values_to_their_bounds(self):
        self.asks(is_claim, right=[
            ("straight", nested(12), 0), ("straight", 10 ** 30 - 1, 1 - 10 ** 30), ("straight", "a" * 12, "z"), ("straight", (0,) * 2000, ()),
            ("straight", (nested(11), (), "a"), 0), ("sum", 1, 2, 3), ("whole", 1, 2, 3, 4), ("ceilings", 1, 2, 3, 4, 5, 6)])
        deepest = 7
        for _ in range(11):
            deepest = (deepest,)
        self.asks(is_claim, right=[("straight", deepest, 0)], wrong=[
            ("straight", (deepest,), 0), ("straight", nested(13), 0), ("straight", 10 ** 30, 0), ("straight", -10 ** 30, 0), ("straight", "a" * 13, 0),
            ("straight", "", 0), ("straight", "A", 0), ("straight", "a1", 0), ("straight", "a b", 0), ("straight", (0,) * 2001, 0),
            ("straight", True, 0), ("straight", (False,), 0), ("straight", [0], 0), ("straight", ([],), 0), ("straight", None, 0), ("straight", b"a", 0),
            ("straight", Odd(), 0), ("straight", 10 ** 5000, 0), ("straight", 0), ("straight", 0, 0, 0), ["straight", 0, 0], ("Straight", 0, 0),
            ("even", 0, 0), (), ("straight",), (Odd(), 0, 0), (None, 0, 0), ("sum", 1, 2), ("parted", 1, 2, 3, 4)])
        self.asks(is_claim, wrong=odd_values())
        for value in odd_values() + [nested(60), ("straight", nested(40), 0)]:
            self.assertEqual(judged(value), ("bad", ()))
        for word, many in PARTS.items():
            for size in range(8):
                self.assertIs(is_claim((word,) + (1,) * size), size == many)
                self.assertEqual(judged((word,) + (1,) * size), ("bad", ()))
                self.assertEqual(judged((word,) + ((),) * size), ("bad", ()))
        self.assertIs(is_claim(value=("sum", 1, 2, 3)), True)
        self.assertEqual(judged(value=("sum", 1, 2, 3)), ("bad", ()))

    def test_frames_and_books_of_claims(self):
        for frame in WRONG_FRAMES:
            for claim in (("road", frame, (), ((0,),)), ("straight", frame, ((0,),)), ("sum", frame, (0,), ()), ("symmetry", frame, (0,), (((1, 1),),)),
                          ("falls", frame, ("order", (0,)), ((0,),))):
                self.assertEqual(judged(claim), ("bad", ()))
        for book in WRONG_BOOKS:
            self.assertEqual(judged(("road", COINS, book, ((1, 2, 1),))), ("bad", ()))
        self.assertEqual(judged(("road", COINS, (), ((1, 2, 1),))), ("ok", "road"))
        for order in (("order", (0, 0)), ("order", (0, 0, 100)), ("orders", (0, 0, 0)), ("order", (0, 0, 0, 0)), (0, 0, 0), ("order", ())):
            self.assertEqual(self.check(("falls", COINS, order, ((1, 2, 1),))), ("bad", ()))

    def test_claim_of(self):
        for _, claims in true_claims(4, 20):
            frame, book = claims[0][1:3]
            paper = decided(frame, book)
            self.assertEqual(claim_of(frame, book, paper), (paper[0], frame, book) + paper[1:])
            self.assertEqual(judged(claim_of(paper=paper, book=book, frame=frame)), ("ok", paper[0]))
        self.assertEqual(claim_of(COINS, (), ("whole", "a", nested(12))), ("whole", COINS, (), "a", nested(12)))
        good = {"frame": COINS, "book": (), "paper": ("whole", (), ())}
        self.refuses(claim_of, good, "frame", InvalidFrame, WRONG_FRAMES)
        self.refuses(claim_of, good, "book", InvalidBook, WRONG_BOOKS)
        self.refuses(claim_of, good, "paper", InvalidPaper, [
            ("whole", ()), ("whole", (), (), ()), ("parted", (), ()), ("parted", (), (), (), ()), ["whole", (), ()], ("Whole", (), ()), ("road", (), ()),
            ("whole", [], ()), ("whole", (), nested(13)), ("whole", True, ()), ("whole", 10 ** 30, ()), ("whole", "A", ()), (), None, 1, True, "whole",
            Odd(), (Odd(), (), ()), ("whole", Odd(), ()), ("parted", None, (), ())])
        self.first_refused(claim_of, good, [("frame", None, InvalidFrame), ("book", None, InvalidBook), ("paper", None, InvalidPaper)])

    def test_arguments_stay(self):
        for claim in (WHOLE, ("road", SHOP, BOOK, ROAD[::2]), ("sum", TOTAL, (1, 1, -2), [(1, 1, -2)])):
            self.kept_and_new(judged, claim)
        self.kept_and_new(claim_of, SHOP, BOOK, ("whole", RULES, ROADS))
        book = ((1, -1) + (0,) * 14,)
        self.assertEqual(judged(("road", BROAD, book, ((1,) * 16,))), ("ok", "road"))
        self.assertEqual(judged(("road", SQUARE, ((1, -1, -1, 1),), ((0, 1, 1, 0), (1, 0, 0, 1)))), ("ok", "road"))
        self.assertEqual(ONE_UP, ((1, -1),))
