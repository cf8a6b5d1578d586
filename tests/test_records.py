"""Tree texts, checks, records [165], [166], held against records written by the words."""

import random
import unittest

from sumroads.errors import BadRecord, InvalidClaim, InvalidText
from sumroads.records import check_of, parse_record, record_text, tree_text
from tests.claiming import PARTS
from tests.claims import true_claims
from tests.helpers import Holds, Odd, odd_values
from tests.test_judge import nested

TOLD = ("sum", ("frame", ((1, 1),)), (1, -1), ((1, -1),))
WRONG_TEXTS = [None, True, 0, (), [], b"", {}, Odd(), ["a"], ("",)]


def tree_text_plainly(value):
    if type(value) is tuple:
        return "(" + " ".join(tree_text_plainly(part) for part in value) + ")"
    return str(value)


def check_plainly(text):
    number = 0
    for sign in text:
        number = (31 * number + ord(sign)) % 9973
    return number


def with_last_line(lines):
    """The text of lines and of a last line that fits them."""
    text = "".join(line + "\n" for line in lines)
    return text + f"end {len(lines)} {check_plainly(text)}\n"


def record_plainly(claim):
    return with_last_line(["sumroads " + claim[0]] + [tree_text_plainly(part) for part in claim[1:]])


def random_tree(draw, depth):
    if depth == 1 or draw.random() < 0.4:
        return draw.choice([0, -1, 7, 10 ** 30 - 1, 1 - 10 ** 30, draw.randint(-999, 999), "a", "frame", "z" * 12, ()])
    return tuple(random_tree(draw, depth - 1) for _ in range(draw.randint(0, 3)))


def random_claims(seed, many):
    draw = random.Random(seed)
    for _ in range(many):
        word = draw.choice(sorted(PARTS))
        yield draw, (word,) + tuple(random_tree(draw, draw.randint(1, 6)) for _ in range(PARTS[word]))


class Records(Holds, unittest.TestCase):
    def test_examples(self):
        self.assertEqual(
            [tree_text((1, ("even", -20), ())), check_of(""), check_of("ab"), record_text(TOLD), parse_record(record_text(TOLD)) == TOLD],
            ["(1 (even -20) ())", 0, 3105, "sumroads sum\n(frame ((1 1)))\n(1 -1)\n((1 -1))\nend 4 6995\n", True])

    def test_tree_texts(self):
        draw = random.Random(1)
        for _ in range(300):
            value = random_tree(draw, 6)
            self.assertEqual(tree_text(value), tree_text_plainly(value))
        self.assertEqual(tree_text(value=nested(12)), "(" * 12 + ")" * 12)
        self.assertEqual([tree_text(value) for value in (0, -5, "abc", (), 10 ** 30 - 1)], ["0", "-5", "abc", "()", "9" * 30])
        self.refuses(tree_text, {"value": 0}, "value", InvalidClaim, [
            True, None, "", "A", "a b", "a" * 13, 10 ** 30, -10 ** 30, [], [1], (1, [2]), (None,), (True,), nested(13), (0,) * 2001, b"a", Odd(), {}, 10 ** 5000])

    def test_checks(self):
        draw = random.Random(2)
        for _ in range(100):
            text = "".join(chr(draw.choice([10, draw.randint(32, 126)])) for _ in range(draw.randint(0, 200)))
            self.assertEqual(check_of(text), check_plainly(text))
        self.assertEqual(check_of(text="~" * 20000), check_plainly("~" * 20000))
        self.refuses(check_of, {"text": ""}, "text", InvalidText, WRONG_TEXTS + ["a" * 20001])
        self.assertEqual(check_of("\n"), 10)

    def test_records_are_written_and_read(self):
        for draw, claims in true_claims(3, 60):
            for claim in claims:
                text = record_text(claim)
                self.assertEqual(text, record_plainly(claim))
                self.assertEqual(parse_record(text), claim)
        for _, claim in random_claims(4, 300):
            self.assertEqual(record_text(claim=claim), record_plainly(claim))
            self.assertEqual(parse_record(text=record_plainly(claim)), claim)

    def wrong_at(self, text):
        """The position of the first wrong line, found by the words of [166], None of a record."""
        lines = text.split("\n")
        ended, rest = lines[:-1], lines[-1]
        words = {"sumroads " + word: word for word in PARTS}
        if not ended or ended[0] not in words:
            return 0
        behind = 1 + PARTS[words[ended[0]]]
        for at in range(1, behind):
            if at >= len(ended) or not self.is_tree_text(ended[at]):
                return at
        wanted = with_last_line(ended[:behind]).split("\n")[-2]
        if len(ended) <= behind or ended[behind] != wanted:
            return behind
        return behind + 1 if len(ended) > behind + 1 or rest else None

    def is_tree_text(self, line):
        """Whether a line is a tree text: read by another way, its signs one by one, and written again."""
        stack, word = [[]], ""
        for sign in line + " ":
            if sign not in " ()":
                word += sign
                continue
            if word:
                digits = word[1:] if word[:1] == "-" else word
                if word.isalpha() and word.islower() and word.isascii():
                    stack[-1].append(word)
                elif digits.isdigit() and len(digits) <= 30:
                    stack[-1].append(int(word))
                else:
                    return False
                word = ""
            if sign == "(":
                stack.append([])
            elif sign == ")":
                if len(stack) == 1:
                    return False
                last = tuple(stack.pop())
                stack[-1].append(last)
        if len(stack) != 1 or len(stack[0]) != 1:
            return False
        from tests.claiming import is_tree_plainly
        return is_tree_plainly(stack[0][0]) and tree_text_plainly(stack[0][0]) == line

    def refused(self, text):
        """Held against what the words tell."""
        wanted = self.wrong_at(text)
        if wanted is None:
            self.assertEqual(record_text(parse_record(text)), text)
            return None
        error = self.error_of(parse_record, {"text": text})
        self.assertIs(type(error), BadRecord)
        self.assertEqual(error.position, wanted, text)
        return wanted

    def test_records_with_one_thing_otherwise(self):
        met = {}
        for draw, claim in random_claims(5, 150):
            text = record_text(claim)
            lines = text.split("\n")[:-1]
            some = [text[:at] + draw.choice("() -019az\n~") + text[at + 1:] for at in draw.sample(range(len(text)), min(12, len(text)))]
            some += [text[:at] + text[at + 1:] for at in draw.sample(range(len(text)), min(8, len(text)))]
            some += [text[:at] + draw.choice(" ()0-\na") + text[at:] for at in draw.sample(range(len(text) + 1), min(8, len(text)))]
            for at in range(len(lines)):
                for made in (lines[:at] + lines[at + 1:], lines[:at] + lines[at:at + 1] + lines[at:], lines[:at] + [lines[at] + " "] + lines[at + 1:],
                             lines[:at] + [" " + lines[at]] + lines[at + 1:], lines[:at] + [""] + lines[at:]):
                    some.append("\n".join(made) + "\n")
            some += [text[:-1], text + "\n", text + text, text + " ", text + "end"]
            for other in some:
                at = self.refused(other)
                met[at] = met.get(at, 0) + 1
        self.assertGreater(len(met), 6)

    def test_lines_that_are_wrong_with_a_last_line_that_fits(self):
        for line, is_right in (("0", True), ("00", False), ("-0", False), ("-1", True), ("01", False), ("+1", False), ("--1", False), ("-", False), ("", False),
                               ("9" * 30, True), ("9" * 31, False), ("-" + "9" * 30, True), ("-" + "9" * 31, False), ("a" * 12, True),
                               ("a" * 13, False), ("A", False), ("a1", False), ("1a", False), ("()", True), ("( )", False), ("(1)", True), ("(1 )", False),
                               ("( 1)", False), ("(1  2)", False), ("(1 2)", True), ("(1(2))", False), ("(1 (2))", True), ("(1 2", False), ("1)", False),
                               ("(1))", False), ("1 2", False), ("()()", False), ("(a-1)", False), ("(a -1)", True), ("(1,2)", False), (")", False), ("(", False),
                               ("(" * 12 + ")" * 12, True), ("(" * 13 + ")" * 13, False), ("(" * 11 + "7" + ")" * 11, True),
                               ("(" * 12 + "7" + ")" * 12, False), ("(" * 5000, False), ("(" + " ".join(["0"] * 2000) + ")", True),
                               ("(" + " ".join(["0"] * 2001) + ")", False), ("()\t", False), ("\u0661", False)):
            text = with_last_line(["sumroads straight", line, "0"])
            self.assertEqual(self.refused(text), None if is_right else 1, line)
            text = with_last_line(["sumroads straight", "0", line])
            self.assertEqual(self.refused(text), None if is_right else 2, line)

    def test_first_lines_and_last_lines(self):
        for line in ("", "sumroads", "sumroads ", "sumroads Sum", "sumroads sums", "Sumroads sum", "sumroads  sum", " sumroads sum", "sumroads sum ", "sum",
                     "sumroads even", "sumroads sum road"):
            self.assertEqual(self.refused(with_last_line([line, "1", "2", "3"])), 0)
        text = record_text(TOLD)
        head = text[:text.index("end")]
        for last in ("end 4 6995", "end 4 6995 \n", "end 4 06995\n", "end 4 6996\n", "end 3 6995\n", "end 04 6995\n", "End 4 6995\n", "end  4 6995\n", "end 4\n", "\n", "",
                     "end 5 6995\n", "end 4 16968\n", " end 4 6995\n"):
            self.assertEqual(self.refused(head + last), 4)
        for text, position in (("", 0), ("\n", 0), ("sumroads sum", 0), ("sumroads sum\n", 1), ("sumroads sum\n1", 1), ("sumroads sum\n1\n", 2),
                               ("sumroads sum\n1\n2\n3", 3), ("sumroads sum\n1\n2\n3\n", 4), (record_text(TOLD) + "\n", 5), (record_text(TOLD) + "x", 5),
                               (record_text(TOLD) * 2, 5)):
            self.assertEqual(self.refused(text), position)

    def test_20000_signs_and_more(self):
        sizes = set()
        for last in range(1, 13):
            for first in range(1, 13):
                value = ("straight", ("a" * 9,) * 1990, ("b" * 12, "b" * 12, "b" * 12, "b" * first, "c" * last, "d" * 10))
                size = len(record_plainly(value))
                if size <= 20000:
                    text = record_text(value)
                    self.assertEqual(len(text), size)
                    self.assertEqual(parse_record(text), value)
                else:
                    self.too_many("signs", 20000, record_text, value)
                sizes.add(size)
        self.assertLessEqual({20000, 20001}, sizes)
        self.too_many("signs", 20000, record_text, ("straight", ("a" * 12,) * 2000, ()))

    def test_errors(self):
        self.refuses(record_text, {"claim": TOLD}, "claim", InvalidClaim, [
            TOLD[:-1], TOLD + (0,), list(TOLD), ("sums",) + TOLD[1:], TOLD[:1] + (None,) + TOLD[2:], TOLD[:1] + (True,) + TOLD[2:], (), None, True, 1, "sum",
            Odd(), (Odd(), 1, 2, 3), ("sum", Odd(), 1, 2), ("sum", nested(13), 1, 2), ("sum", [1], 1, 2)])
        self.refuses(parse_record, {"text": ""}, "text", InvalidText, WRONG_TEXTS)
        for value in odd_values():
            if not isinstance(value, str):
                self.assertIs(type(self.error_of(parse_record, {"text": value})), InvalidText)

    def test_arguments_stay(self):
        self.kept_and_new(record_text, TOLD)
        self.assertIs(type(self.kept_and_new(parse_record, record_text(TOLD))), tuple)
        self.kept_and_new(tree_text, (1, ("even", -20), ()))
