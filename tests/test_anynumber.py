"""Choices, unparted patterns, books for any number of layers [114] to [118], held against plain searches."""

import itertools
import unittest

from sumroads.anynumber import (
    decided_any, is_any_paper, is_unparted_pattern, told_number, unparted_choices, unparted_patterns, whole_for)
from sumroads.errors import InvalidFrame, InvalidMany, InvalidPattern, InvalidPatterns
from sumroads.kinds import is_pattern, is_stack_road, pattern_ends, pattern_of
from sumroads.layered import stacks_with
from sumroads.unparted import unparted
from tests.helpers import BROAD, COINS, HIGH, Holds, Odd, SQUARE, TOTAL, WRONG_FRAMES, odd_values
from tests.parting import changes_within_plainly, is_unparted_plainly
from tests.putting import put_plainly, stacks_by_distance
from tests.test_elimination import linked, small_frames
from tests.test_kinds import COIN_SWAP, DOWN, RING, SWAP, UP, WRONG_PATTERN_BOOKS, WRONG_PATTERNS, random_patterns
from tests.test_layered import PAIR

WORTH = ("frame", ((1, 2, 3),))
LAST = ("frame", ((1, 1, 2),))
FRAMES = [PAIR, TOTAL, COINS, LAST, WORTH, ("frame", ((1, 1, 3),)), ("frame", ((2, 3),)), ("frame", ((1, 0), (0, 1))),
          ("frame", ((1, 1, 0), (0, 0, 1))), ("frame", ((9, 6, 4),)), ("frame", ((1,),)), ("frame", ((1, 1, 1), (0, 2, 2)))]
SWAPS = (((-1, 0, 1), (1, 0, -1)), ((-1, 1, 0), (1, -1, 0)), ((0, -1, 1), (0, 1, -1)))


def both_signs(frame):
    moves = unparted(frame)
    return sorted(moves + [tuple(-number for number in move) for move in moves])


def total(rows, cells):
    return tuple(sum(row[cell] for row in rows) for cell in range(cells))


def choices_plainly(frame, most):
    """All unparted choices of at most so many members: grown member by member, no part adding up to 0."""
    cells = len(frame[1][0])
    found = []
    members = both_signs(frame)
    # Each tuple of members, sorted, with the sums of all its parts, none of them 0.
    grown = [((), frozenset([(0,) * cells]))]
    for _ in range(most):
        further = []
        for ahead, sums in grown:
            for member in members:
                if not ahead or member >= ahead[-1]:
                    more = {tuple(a + b for a, b in zip(one, member)) for one in sums}
                    whole = total(ahead + (member,), cells)
                    if not any(whole):
                        if not any(parts_that_add_up(ahead + (member,), cells)):
                            found.append(ahead + (member,))
                    elif (0,) * cells not in more:
                        further.append((ahead + (member,), sums | more))
        grown = further
    return sorted(found), grown


def parts_that_add_up(choice, cells):
    for many in range(1, len(choice)):
        for part in itertools.combinations(choice, many):
            yield not any(total(part, cells))


def is_unparted_pattern_plainly(frame, pattern):
    cells = len(frame[1][0])
    lots = [changes_within_plainly(frame, change) for change in pattern]
    found = [rows for rows in itertools.product(*lots) if not any(total(rows, cells))]
    return len(found) == 2


def patterns_plainly(frame, kinds, most):
    """All unparted patterns of these kinds with no number above most in size."""
    cells = len(frame[1][0])
    rows = [row for row in itertools.product(range(-most, most + 1), repeat=cells)
            if any(row) and all(sum(a * b for a, b in zip(line, row)) == 0 for line in frame[1])]
    found = set()
    for kind in kinds:
        for changes in itertools.combinations_with_replacement(rows, kind):
            if not any(total(changes, cells)) and is_unparted_pattern_plainly(frame, changes):
                found.add(pattern_of(frame, list(changes)))
    return sorted(found)


def whole_plainly(frame, patterns, many, most):
    """Whether all stacks of so many layers of tables with small counts are joined, where they have the same sums."""
    tables = list(itertools.product(range(most + 1), repeat=len(frame[1][0])))
    done = set()
    for stack in itertools.product(tables, repeat=many):
        if stack not in done:
            reached = set(stacks_by_distance(patterns, stack))
            if reached != set(stacks_with(frame, stack)):
                return False
            done |= reached
    return True


def some_books(seed, many):
    """Frames of few cells with books of patterns: some unparted ones, others, all, none."""
    found = 0
    for draw, frame in small_frames(seed, 10 * many, 3, 2, 3):
        if found == many:
            return
        if len(unparted(frame)) <= 3 and len(frame[1][0]) > 1:
            patterns = unparted_patterns(frame)
            chosen = [pattern for pattern in patterns if draw.random() < draw.choice([0.3, 0.8, 1, 1])]
            if draw.random() < 0.3:
                chosen.extend(random_patterns(draw, frame, 2, [2, 3]))
            found += 1
            yield draw, frame, tuple(sorted(set(chosen)))


class AnyNumber(Holds, unittest.TestCase):
    def test_examples(self):
        self.assertEqual(
            [told_number(PAIR), told_number(TOTAL), unparted_choices(PAIR),
             unparted_patterns(TOTAL) == [RING, ((-1, 0, 1), (1, 0, -1)), ((-1, 1, 0), (1, -1, 0)), ((0, -1, 1), (0, 1, -1))],
             is_unparted_pattern(TOTAL, RING)], [2, 3, [((-1, 1), (1, -1))], True, True])
        self.assertEqual(
            [whole_for(PAIR, (), 1), whole_for(PAIR, (), 2), decided_any(TOTAL, tuple(unparted_patterns(TOTAL)[1:]))[0],
             decided_any(PAIR, ())[0], is_any_paper(PAIR, (), ("parted", ((1, 0), (0, 1)), ((0, 1), (1, 0)), (((1, 0), (0, 1)),)))],
            [True, False, "whole", "parted", True])

    def test_the_patterns_of_kind_2_of_one_cell_up_and_one_down(self):
        self.assertEqual(decided_any(TOTAL, SWAPS)[0], "whole")
        for left in itertools.combinations(SWAPS, 2):
            self.assertEqual(decided_any(TOTAL, left)[0], "parted")

    def test_choices_by_plain_searches(self):
        for frame in FRAMES:
            many = told_number(frame)
            wanted, _ = choices_plainly(frame, many + 1)
            told = unparted_choices(frame)
            self.assertEqual(told, wanted)
            self.assertEqual(max([len(choice) for choice in wanted], default=1), many)
            self.assertTrue(all(type(choice) is tuple and list(choice) == sorted(choice) for choice in told))
        self.assertEqual([told_number(frame) for frame in FRAMES], [2, 3, 2, 4, 6, 6, 2, 1, 2, 6, 1, 2])
        for _, frame in small_frames(1, 60, 3, 2, 3):
            moves = unparted(frame)
            if len(moves) <= 4:
                wanted, left = choices_plainly(frame, 7)
                if max([len(choice) for choice in wanted], default=1) <= 6:
                    self.assertEqual(unparted_choices(frame), wanted)
                    self.assertEqual(told_number(frame), max([len(choice) for choice in wanted], default=1))
                else:
                    self.too_many("number", 6, told_number, frame)

    def test_patterns_by_plain_searches(self):
        for frame, kinds, most in ((PAIR, (2, 3, 4), 3), (TOTAL, (2, 3), 2), (COINS, (2, 3, 4), 4), (LAST, (2, 3, 4), 2),
                                   (("frame", ((2, 3),)), (2, 3), 6), (WORTH, (2, 3), 6)):
            wanted = patterns_plainly(frame, kinds, most)
            told = unparted_patterns(frame)
            self.assertEqual([pattern for pattern in told if len(pattern) in kinds
                              and max(abs(n) for change in pattern for n in change) <= most], wanted)

    def test_patterns_are_unparted_patterns(self):
        for frame in FRAMES:
            told = unparted_patterns(frame)
            self.assertEqual(told, sorted(set(told)))
            for pattern in told:
                self.assertIs(is_pattern(frame, pattern), True)
                self.assertLessEqual(len(pattern), told_number(frame))
                self.assertTrue(is_unparted_pattern_plainly(frame, pattern))
                self.assertIs(is_unparted_pattern(frame, pattern), True)
        # Not all sums of members of unparted choices are such: of (1, 1, 2) some are parted another way.
        self.assertIn(((-2, 0, 1), (0, -2, 1), (1, 1, -1), (1, 1, -1)), unparted_patterns(LAST))

    def test_is_unparted_pattern(self):
        told = {True: 0, False: 0}
        for draw, frame in small_frames(2, 200, 4, 2, 3):
            for pattern in random_patterns(draw, frame, 3, [2, 3, 4]):
                if max(abs(n) for change in pattern for n in change) <= 2:
                    wanted = is_unparted_pattern_plainly(frame, pattern)
                    self.assertIs(is_unparted_pattern(frame, pattern), wanted)
                    told[wanted] += 1
        self.assertGreater(min(told.values()), 40)
        self.assertIs(is_unparted_pattern(pattern=RING, frame=TOTAL), True)
        self.assertIs(is_unparted_pattern(SQUARE, ((-1, 1, 1, -1), (1, -1, -1, 1))), True)
        self.assertIs(is_unparted_pattern(SQUARE, ((-2, 2, 2, -2), (1, -1, -1, 1), (1, -1, -1, 1))), False)
        self.assertIs(is_unparted_pattern(SQUARE, ((-2, 2, 2, -2), (2, -2, -2, 2))), False)

    def test_2000_changes_and_more(self):
        # (-k, k) has k + 1 changes within it.
        self.assertIs(is_unparted_pattern(PAIR, ((-43, 43), (43, -43))), False)
        self.too_many("changes", 2000, is_unparted_pattern, PAIR, ((-44, 44), (44, -44)))
        self.assertIs(is_unparted_pattern(PAIR, ((-1, 1),) * 4 + ((1, -1),) * 4), False)
        # 5 * 5 * 5 * 2 ** 4 = 2000; 3 * 7 * 3 * 4 * 2 ** 3 = 2016.
        within = pattern_of(PAIR, [(-4, 4), (-4, 4), (4, -4)] + [(1, -1)] * 4)
        self.assertIs(is_unparted_pattern(PAIR, within), False)
        self.too_many("changes", 2000, is_unparted_pattern, PAIR, pattern_of(PAIR, [(-2, 2), (-6, 6), (2, -2), (3, -3)] + [(1, -1)] * 3))
        within = pattern_of(COINS, [tuple(n * k for n in UP) for k in (-4, -4, 4, 1, 1, 1, 1)])
        self.assertIs(is_unparted_pattern(COINS, within), False)
        # Far more than 2000 changes are within one alone.
        self.too_many("changes", 2000, is_unparted_pattern, BROAD, (((-99, 99) * 8), ((99, -99) * 8)))

    def test_cells_moves_and_numbers_to_the_bounds(self):
        each = (unparted_choices, told_number, unparted_patterns)
        others = (lambda frame: whole_for(frame, (), 2), lambda frame: whole_for(frame, (), 1), lambda frame: decided_any(frame, ()),
                  lambda frame: is_any_paper(frame, (), ("whole", ())))
        for function in others:
            function.__name__ = "asked"
        for function in each + others:
            for frame in (SQUARE, HIGH, BROAD, linked(4), ("frame", ((1, 0, 0, 0), (0, 1, 0, 0), (0, 0, 1, 0), (0, 0, 0, 1)))):
                self.too_many("cells", 3, function, frame)
            self.too_many("moves", 6, function, ("frame", ((1, 2, 9),)))
            self.too_many("moves", 6, function, ("frame", ((3, 4, 5),)))
            self.too_many("number", 6, function, ("frame", ((1, 2, 5),)))
            function(linked(3))
            function(WORTH)
        self.assertEqual(len(unparted(("frame", ((1, 2, 5),)))), 6)
        self.assertEqual(len(unparted(("frame", ((3, 4, 5),)))), 7)
        self.assertEqual(told_number(linked(3)), 2)
        self.assertIs(is_any_paper(SQUARE, (), ("whole", [])), False)
        self.assertIs(is_any_paper(SQUARE, (), ("whole",)), False)
        self.assertIs(is_any_paper(SQUARE, (), ("whole", (), ())), False)
        one, other = ((1, 0, 0, 1), (0, 1, 1, 0)), ((0, 1, 1, 0), (1, 0, 0, 1))
        self.assertIs(is_any_paper(SQUARE, (), ("parted", one, other, (one,))), True)

    def test_moves_to_six_with_a_number_to_six(self):
        # (1, 1, 4): 3 unparted moves more than of the total; with 6 moves some frames have numbers to 6, too.
        six = [frame for frame in (("frame", (row,)) for row in itertools.combinations_with_replacement(range(1, 10), 3))
               if len(unparted(frame)) == 6]
        self.assertTrue(six)
        for frame in six:
            error = self.error_of_call(told_number, frame)
            self.assertTrue(error is None or (error.what, error.limit) == ("number", 6))

    def error_of_call(self, function, *told):
        from sumroads.errors import TooMany
        try:
            function(*told)
        except TooMany as error:
            return error
        return None

    def test_whole_for_by_plain_walks(self):
        told = {True: 0, False: 0}
        for draw, frame, patterns in some_books(3, 40):
            for many in (1, 2, 3):
                whole = whole_for(frame, patterns, many)
                told[whole] += 1
                most = 2 if many < 3 and len(frame[1][0]) < 3 else 1
                if whole:
                    self.assertTrue(whole_plainly(frame, patterns, many, most))
                else:
                    self.assertTrue(self.has_parted_ends(frame, patterns, many))
        self.assertGreater(min(told.values()), 10)

    def has_parted_ends(self, frame, patterns, many):
        """Whether both ends of some pattern, with layers of nought beside, are not joined."""
        nought = ((0,) * len(frame[1][0]),)
        for pattern in unparted_patterns(frame):
            if len(pattern) <= many:
                ahead, behind = [end + nought * (many - len(pattern)) for end in pattern_ends(frame, pattern)]
                if behind not in stacks_by_distance(patterns, ahead):
                    return True
        return False

    def test_whole_for_few_layers_alone(self):
        # Without the ring a book that has all of kind 2 is whole; with the ring alone two layers are not joined.
        self.assertEqual([whole_for(TOTAL, SWAPS, many) for many in range(1, 9)], [True] * 8)
        self.assertEqual([whole_for(TOTAL, (RING,), many) for many in range(1, 9)], [True] + [False] * 7)
        # Of (1, 1, 2) the patterns of kind 2 are whole for two layers, those of kinds 2 and 3 for any number or not.
        two = tuple(pattern for pattern in unparted_patterns(LAST) if len(pattern) == 2)
        told = [whole_for(LAST, two, many) for many in range(1, 9)]
        self.assertEqual(told[:2], [True, True])
        self.assertEqual(told[3:], [told[3]] * 5)
        self.assertIs(told[7], decided_any(LAST, two)[0] == "whole")
        self.assertIs(whole_for(many=2, patterns=(), frame=HIGH3), True)

    def test_papers_of_a_yes_and_of_a_no(self):
        words = {"whole": 0, "parted": 0}
        for draw, frame, patterns in some_books(4, 60):
            paper = decided_any(frame, patterns)
            words[paper[0]] += 1
            self.assertIs(is_any_paper(frame, patterns, paper), True)
            self.assertIs(paper[0] == "whole", whole_for(frame, patterns, 8))
            if paper[0] == "whole":
                wanted = [pattern_ends(frame, pattern) for pattern in unparted_patterns(frame)]
                self.assertEqual([(road[0], road[-1]) for road in paper[1]], wanted)
                self.assertTrue(all(is_stack_road(frame, patterns, road) for road in paper[1]))
            else:
                _, stack, other, closed = paper
                self.assertEqual(sorted(stacks_by_distance(patterns, stack)), list(closed))
                self.assertIn(other, stacks_with(frame, stack))
                self.assertNotIn(other, closed)
        self.assertGreater(min(words.values()), 10)

    def test_papers_with_one_thing_otherwise(self):
        paper = decided_any(TOTAL, SWAPS)
        roads = paper[1]
        wrong = [("whole", roads[1:]), ("whole", roads + roads[:1]), ("whole", list(roads)), ("parted", roads), ["whole", roads],
                 ("whole",), ("whole", roads, ()), ("Whole", roads), (Odd(), roads), ("whole", (Odd(),) * len(roads)), ("whole", None)]
        for at, road in enumerate(roads):
            for other in (road[1:], road[:-1], road[::-1], road + road[-1:], road[:1], (), list(road), None, road[:1] + (road[0],) + road[1:],
                          road[:1] + (((1, 0, 0),) * len(road[0]),) + road[1:], roads[at - 1]):
                wrong.append(("whole", roads[:at] + (other,) + roads[at + 1:]))
        self.asks(is_any_paper, TOTAL, SWAPS, right=[paper], wrong=wrong + odd_values())
        for left in range(3):
            book = SWAPS[:left] + SWAPS[left + 1:]
            self.assertIs(is_any_paper(TOTAL, book, paper), False)
        longer = tuple(road[:1] + (road[1], road[0]) + road[1:] for road in roads)
        self.assertIs(is_any_paper(TOTAL, SWAPS, ("whole", longer)), True)

    def test_papers_of_a_no_with_one_thing_otherwise(self):
        stack = ((2, 0), (0, 2), (0, 0))
        double = ((-2, 2), (2, -2))
        closed = tuple(sorted(stacks_by_distance((double,), stack)))
        mixed = ((1, 1), (1, 1), (0, 0))
        self.assertNotIn(mixed, closed)
        unlike_sums = ((1, 1), (1, 0), (0, 1))
        right = [("parted", stack, mixed, closed), ("parted", closed[0], mixed, closed), ("parted", mixed, stack, (mixed,))]
        apart = ((5, 5),)
        right.append(("parted", stack, mixed, tuple(sorted(closed + (apart,)))))
        wrong = [("parted", mixed, stack, closed), ("parted", stack, closed[-1], closed), ("parted", stack, mixed, closed[::-1]),
                 ("parted", stack, mixed, closed + closed[-1:]), ("parted", stack, mixed, list(closed)), ("parted", stack, mixed, ()),
                 ("parted", stack, unlike_sums, closed), ("parted", stack, mixed + ((0, 0),), closed), ("parted", stack, mixed),
                 ("parted", list(stack), mixed, closed), ("parted", stack, mixed, closed, ()), ("whole", stack, mixed, closed),
                 ("parted", None, mixed, closed), ("parted", stack, Odd(), closed), ("parted", stack, mixed, Odd()),
                 ("parted", stack, mixed, tuple(sorted(closed + (mixed,))))]
        for at in range(len(closed)):
            wrong.append(("parted", stack, mixed, closed[:at] + closed[at + 1:]))
            wrong.append(("parted", stack, mixed, closed[:at] + (None,) + closed[at + 1:]))
        self.asks(is_any_paper, PAIR, (double,), right=right, wrong=wrong)
        self.assertIs(is_any_paper(PAIR, (SWAP,), right[0]), False)
        self.assertIs(is_any_paper(value=right[0], patterns=(double,), frame=PAIR), True)

    def test_papers_of_great_closed_lots(self):
        # All 1999 stacks can be told, and each step is looked at, without any bound of what is listed.
        line = tuple(((count, 1998 - count), (1998 - count, count)) for count in range(1999))
        self.assertIs(is_any_paper(PAIR, (SWAP,), ("parted", line[0], ((0, 1998), (1998, 0)), line)), False)
        double = ((-2, 2), (2, -2))
        even = line[::2]
        self.assertIs(is_any_paper(PAIR, (double,), ("parted", even[5], line[7], even)), True)
        self.assertIs(is_any_paper(PAIR, (double,), ("parted", even[5], line[7], even[1:])), False)
        stack = ((9,) * 16,) * 8
        moves = [tuple(int(at == up) - int(at == down) for at in range(16)) for up, down in itertools.combinations(range(16), 2)]
        book = tuple(sorted((tuple(-n for n in move), move) for move in moves))[:40]
        self.assertIs(is_any_paper(BROAD, book, ("parted", stack, stack, (stack,))), False)
        other = min(put_plainly(book[:1], stack))
        self.assertIs(is_any_paper(BROAD, book, ("parted", stack, other, (stack,))), False)

    def test_errors(self):
        for function in (unparted_choices, told_number, unparted_patterns):
            self.refuses(function, {"frame": PAIR}, "frame", InvalidFrame, WRONG_FRAMES)
        good = {"frame": COINS, "pattern": COIN_SWAP}
        self.refuses(is_unparted_pattern, good, "frame", InvalidFrame, WRONG_FRAMES)
        self.refuses(is_unparted_pattern, good, "pattern", InvalidPattern, WRONG_PATTERNS)
        self.first_refused(is_unparted_pattern, good, [("frame", None, InvalidFrame), ("pattern", None, InvalidPattern)])
        wrongs = [("frame", None, InvalidFrame), ("patterns", None, InvalidPatterns)]
        for function, good in ((decided_any, {"frame": COINS, "patterns": ()}), (whole_for, {"frame": COINS, "patterns": (), "many": 2}),
                               (is_any_paper, {"frame": COINS, "patterns": (), "value": None})):
            self.refuses(function, good, "frame", InvalidFrame, WRONG_FRAMES)
            self.refuses(function, good, "patterns", InvalidPatterns, WRONG_PATTERN_BOOKS)
            self.first_refused(function, good, wrongs)
        good = {"frame": SQUARE, "patterns": (), "many": 2}
        self.refuses(whole_for, good, "many", InvalidMany, [0, 9, -1, True, False, None, "2", (2,), [2], Odd()])
        self.first_refused(whole_for, {"frame": COINS, "patterns": (), "many": 2}, wrongs + [("many", 0, InvalidMany)])

    def test_arguments_stay_and_lists_are_new(self):
        for function in (unparted_choices, unparted_patterns):
            self.assertIs(type(self.kept_and_new(function, TOTAL)), list)
        self.assertEqual((unparted_choices(HIGH3), unparted_patterns(HIGH3), told_number(HIGH3)), ([], [], 1))
        self.assertEqual(decided_any(HIGH3, ()), ("whole", ()))
        self.assertIs(is_any_paper(HIGH3, (), ("whole", ())), True)
        for patterns in ((), SWAPS):
            self.assertIs(type(self.kept_and_new(decided_any, TOTAL, patterns)), tuple)
        self.assertEqual(DOWN, tuple(-number for number in UP))
        self.assertTrue(all(is_unparted_plainly(TOTAL, change) for change in RING))


HIGH3 = ("frame", ((1, 0, 0), (0, 1, 0), (0, 0, 1)))
