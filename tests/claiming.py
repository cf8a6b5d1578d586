"""Tree values, claims and the judge, written again by the words of the document, for the tests alone."""

from fractions import Fraction
from math import gcd

from tests.helpers import sums_plainly
from tests.judging import is_row_of, is_table_plainly, reason_plainly, tables_plainly
from tests.parting import within_plainly
from tests.test_orders import greater_plainly
from tests.walking import steps_plainly

PARTS = {"whole": 4, "parted": 5, "ceilings": 6, "road": 3, "straight": 2, "falls": 3, "sum": 3, "symmetry": 3}
LETTERS = set("abcdefghijklmnopqrstuvwxyz")


def depth_plainly(value):
    """How deep a value is nested, None if it is no tree value however deep it may be."""
    if type(value) is tuple:
        depths = [depth_plainly(part) for part in value]
        if len(value) > 2000 or None in depths:
            return None
        return 1 + max(depths, default=0)
    if type(value) is int:
        return 1 if len(str(abs(value))) <= 30 else None
    if type(value) is str:
        return 1 if 1 <= len(value) <= 12 and set(value) <= LETTERS else None
    return None


def is_tree_plainly(value):
    depth = depth_plainly(value)
    return depth is not None and depth <= 12


def is_claim_plainly(value):
    if type(value) is not tuple or not value or type(value[0]) is not str or value[0] not in PARTS:
        return False
    return len(value) == 1 + PARTS[value[0]] and all(is_tree_plainly(part) for part in value[1:])


def is_frame_plainly(value):
    if type(value) is not tuple or len(value) != 2 or type(value[0]) is not str or value[0] != "frame":
        return False
    rows = value[1]
    if type(rows) is not tuple or not 1 <= len(rows) <= 16 or type(rows[0]) is not tuple or not 1 <= len(rows[0]) <= 16:
        return False
    return all(is_row_of(row, len(rows[0]), 9) for row in rows) and all(any(column) for column in zip(*rows))


def are_integers_plainly(value, many):
    return type(value) is tuple and len(value) == many and all(type(number) is int for number in value)


def is_change_plainly(frame, value):
    return are_integers_plainly(value, len(frame[1][0])) and not any(sums_plainly(frame, value))


def is_book_plainly(frame, value):
    if type(value) is not tuple or len(value) > 60 or not all(is_change_plainly(frame, move) for move in value):
        return False
    nought = (0,) * len(frame[1][0])
    if not all(move > nought and max(abs(number) for number in move) <= 99 for move in value):
        return False
    return all(one < other for one, other in zip(value, value[1:]))


def is_order_plainly(value):
    return (type(value) is tuple and len(value) == 2 and type(value[0]) is str and value[0] == "order" and type(value[1]) is tuple
            and 1 <= len(value[1]) <= 40 and is_row_of(value[1], len(value[1]), 99))


def first_of(positions):
    """What is told of the positions where something is wrong, all else being as told."""
    wrong = list(positions)
    return ("bad", (wrong[0],)) if wrong else None


BAD = ("bad", ())


def same_sums(frame, tables):
    return len({sums_plainly(frame, table) for table in tables}) == 1


def of_whole(frame, book, rules, roads):
    if not is_frame_plainly(frame) or not is_book_plainly(frame, book):
        return BAD
    word = reason_plainly(frame, book, ("whole", rules, roads))
    if word != "roads":
        return None if word is None else BAD
    rows = len(frame[1])
    pairs = [(ahead[rows:], behind[rows:]) for ahead, behind in rules if not any(ahead[:rows])]
    if len(pairs) != len(roads):
        return BAD
    return first_of(at for at, (pair, road) in enumerate(zip(pairs, roads)) if not (
        road and (road[0], road[-1]) == pair and all(to in steps_plainly(book, here) for here, to in zip(road, road[1:]))))


def of_closed(frame, book, table, other, closed, is_free):
    """Of "parted" and "ceilings": a step may lead to what is not free."""
    if list(closed) != sorted(set(closed)) or table not in closed or other in closed or not same_sums(frame, (table, other)):
        return BAD
    return first_of(at for at, here in enumerate(closed) if any(
        is_free(to) and to not in closed for to in steps_plainly(book, here)))


def of_parted(frame, book, table, other, closed):
    if not is_frame_plainly(frame) or not is_book_plainly(frame, book):
        return BAD
    if not is_table_plainly(frame, table) or not is_table_plainly(frame, other) or not tables_plainly(frame, closed):
        return BAD
    return of_closed(frame, book, table, other, closed, lambda to: True)


def of_ceilings(frame, book, ceilings, table, other, closed):
    if not is_frame_plainly(frame) or not is_book_plainly(frame, book) or not is_row_of(ceilings, len(frame[1][0]), 20000):
        return BAD
    if not is_table_plainly(frame, table) or not is_table_plainly(frame, other) or not tables_plainly(frame, closed):
        return BAD

    def is_under(here):
        return all(count <= most for count, most in zip(here, ceilings))
    if not all(is_under(here) for here in (table, other) + closed):
        return BAD
    return of_closed(frame, book, table, other, closed, is_under)


def of_road(frame, book, road):
    if not is_frame_plainly(frame) or not is_book_plainly(frame, book) or not tables_plainly(frame, road) or not road:
        return BAD
    return first_of(at for at in range(1, len(road)) if road[at] not in steps_plainly(book, road[at - 1]))


def of_straight(frame, road):
    if not is_frame_plainly(frame) or not tables_plainly(frame, road) or not road or not same_sums(frame, road):
        return BAD
    return first_of(at for at in range(1, len(road)) if road[at] == road[at - 1] or not all(
        min(a, c) <= b <= max(a, c) for a, b, c in zip(road[at - 1], road[at], road[-1])))


def of_falls(frame, order, road):
    if not is_frame_plainly(frame) or not is_order_plainly(order) or len(order[1]) != len(frame[1][0]):
        return BAD
    if not tables_plainly(frame, road) or not road or not same_sums(frame, road):
        return BAD
    return first_of(at for at in range(1, len(road)) if greater_plainly(order, road[at - 1], road[at]) != 1)


def of_sum(frame, change, parts):
    if not is_frame_plainly(frame) or not is_change_plainly(frame, change) or type(parts) is not tuple:
        return BAD
    if not all(is_change_plainly(frame, part) and any(part) for part in parts):
        return BAD
    if tuple(sum(part[cell] for part in parts) for cell in range(len(change))) != change:
        return BAD
    return first_of(at for at, part in enumerate(parts) if not within_plainly(part, change))


def is_ratio_plainly(value):
    return are_integers_plainly(value, 2) and value[1] >= 1 and gcd(*value) == 1


def of_symmetry(frame, exchange, rows):
    if not is_frame_plainly(frame):
        return BAD
    cells, many = len(frame[1][0]), len(frame[1])
    if not are_integers_plainly(exchange, cells) or sorted(exchange) != list(range(cells)):
        return BAD
    if type(rows) is not tuple or len(rows) != many:
        return BAD
    if not all(type(row) is tuple and len(row) == many and all(is_ratio_plainly(part) for part in row) for row in rows):
        return BAD
    wrong = []
    for at, row in enumerate(frame[1]):
        made = [sum(Fraction(*part) * other[cell] for part, other in zip(rows[at], frame[1])) for cell in range(cells)]
        if made != [row[exchange[cell]] for cell in range(cells)]:
            wrong.append(at)
    return first_of(wrong)


JUDGES = {"whole": of_whole, "parted": of_parted, "ceilings": of_ceilings, "road": of_road, "straight": of_straight, "falls": of_falls,
          "sum": of_sum, "symmetry": of_symmetry}


def judged_plainly(value):
    if not is_claim_plainly(value):
        return BAD
    told = JUDGES[value[0]](*value[1:])
    return ("ok", value[0]) if told is None else told


def shares_of_row(frame, wanted):
    """Fractions whose sum of the frame's rows is the wanted row, None without any: by elimination."""
    many = len(frame[1])
    lines = [[Fraction(row[cell]) for row in frame[1]] + [Fraction(wanted[cell])] for cell in range(len(wanted))]
    heads = []
    for column in range(many):
        at = next((k for k in range(len(heads), len(lines)) if lines[k][column]), None)
        if at is None:
            continue
        place = len(heads)
        lines[place], lines[at] = lines[at], lines[place]
        lines[place] = [number / lines[place][column] for number in lines[place]]
        for k in range(len(lines)):
            if k != place:
                by = lines[k][column]
                lines[k] = [a - by * b for a, b in zip(lines[k], lines[place])]
        heads.append(column)
    if any(line[-1] for line in lines[len(heads):]):
        return None
    shares = [Fraction(0)] * many
    for line, column in zip(lines, heads):
        shares[column] = line[-1]
    return shares


def symmetry_rows(frame, exchange):
    """The rows of RATIOS that show a symmetry, None of what is none."""
    found = []
    for row in frame[1]:
        shares = shares_of_row(frame, [row[exchange[cell]] for cell in range(len(row))])
        if shares is None:
            return None
        found.append(tuple((share.numerator, share.denominator) for share in shares))
    return tuple(found)
