"""PAPERS of a yes and of a no, and the small judge that takes them or tells a reason."""

from sumroads.doing import end_within
from sumroads.elimination import cell_rules_started, check_letters, order_by_sums, rules_of_cells, sums_with_letters
from sumroads.integers import is_rising
from sumroads.kernels import check_frame, sums_by
from sumroads.lots import MOST_TABLES, is_table_of
from sumroads.moves import check_book
from sumroads.orders import MOST_COUNT
from sumroads.overlaps import is_closed_up
from sumroads.reach import Steps, is_under
from sumroads.ready import made_ready
from sumroads.roads import is_way
from sumroads.rules import are_rules


def paper_order(frame):
    check_frame(frame)
    return order_by_sums(frame)


def start_rules(frame):
    check_frame(frame)
    return cell_rules_started(frame)


def sums_of_monomial(frame, monomial):
    check_letters(frame, monomial)
    return sums_with_letters(frame, monomial)


def are_tables(frame, value):
    """Whether any value is a tuple of not too many tables."""
    if not isinstance(value, tuple) or len(value) > MOST_TABLES:
        return False
    return all([is_table_of(frame, table) for table in value])


def is_word(value, word):
    return isinstance(value, str) and value == word


def has_form_of_yes(frame, value):
    if not isinstance(value, tuple) or len(value) != 3 or not is_word(value[0], "whole"):
        return False
    _, rules, roads = value
    if not are_rules(order_by_sums(frame), rules) or not isinstance(roads, tuple):
        return False
    return all([are_tables(frame, road) for road in roads])


def has_form_of_no(frame, value):
    if not isinstance(value, tuple) or len(value) != 4 or not is_word(value[0], "parted"):
        return False
    _, table, other, closed = value
    return is_table_of(frame, table) and is_table_of(frame, other) and are_tables(frame, closed)


def keep_sums(frame, rules):
    return all([sums_with_letters(frame, ahead) == sums_with_letters(frame, behind) for ahead, behind in rules])


def have_starts_one_end(frame, readies):
    """Whether both sides of each start rule have one end, no greater count being met."""
    for ahead, behind in cell_rules_started(frame):
        end = end_within(readies, ahead, MOST_COUNT)
        if end is None or end != end_within(readies, behind, MOST_COUNT):
            return False
    return True


def is_road_of(book, rule, road):
    """Whether a tuple of tables is a road by the book from the table ahead to that behind."""
    ahead, behind = rule
    return len(road) > 0 and road[0] == ahead and road[-1] == behind and is_way(book, road)


def wrong_roads(frame, book, rules, roads):
    """The positions of the cell rules whose road is none; None if there are more or fewer roads than cell rules."""
    pairs = rules_of_cells(rules, len(frame[1]))
    if len(pairs) != len(roads):
        return None
    return [at for at in range(len(pairs)) if not is_road_of(book, pairs[at], roads[at])]


def reason_against_rules(frame, rules):
    readies = made_ready(rules)
    if not keep_sums(frame, rules):
        return "sums"
    if not have_starts_one_end(frame, readies):
        return "start"
    if not is_closed_up(readies, MOST_COUNT):
        return "overlap"
    return None


def reason_against_yes(frame, book, rules, roads):
    word = reason_against_rules(frame, rules)
    if word is None and wrong_roads(frame, book, rules, roads) != []:
        return "roads"
    return word


def is_apart(table, other, closed):
    """Whether closed is rising, has the table and not the other one."""
    return is_rising(closed) and table in closed and other not in closed


def leading_out(book, closed, ceilings=None):
    """The positions of the tables of closed from which a move leads out; with ceilings, to one under them."""
    inside = {here: True for here in closed}
    steps = Steps(book)
    found = []
    for at, here in enumerate(closed):
        outside = [to for to in steps.tables_from(here) if to not in inside]
        if ceilings is not None:
            outside = [to for to in outside if is_under(to, ceilings)]
        if outside:
            found.append(at)
    return found


def reason_against_no(frame, book, table, other, closed):
    if sums_by(frame, table) != sums_by(frame, other):
        return "sums"
    if not is_apart(table, other, closed) or leading_out(book, closed):
        return "closed"
    return None


def reason(frame, book, value):
    check_book(frame, book)
    if has_form_of_yes(frame, value):
        return reason_against_yes(frame, book, value[1], value[2])
    if has_form_of_no(frame, value):
        return reason_against_no(frame, book, value[1], value[2], value[3])
    return "form"


def is_paper(frame, book, value):
    return reason(frame, book, value) is None
