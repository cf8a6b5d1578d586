"""PAPERS of a yes and of a no, and the small judge that takes them or tells a reason."""

from sumroads.doing import end_within
from sumroads.elimination import cell_rules_started, check_letters, order_by_sums, rules_of_cells, sums_with_letters
from sumroads.integers import is_rising
from sumroads.kernels import check_frame, sums_by
from sumroads.lots import MOST_TABLES, is_table_of
from sumroads.moves import check_book
from sumroads.orders import MOST_COUNT
from sumroads.overlaps import is_closed_up
from sumroads.reach import Steps
from sumroads.ready import made_ready
from sumroads.roads import is_way
from sumroads.rules import are_rules


def paper_order(frame):
    check_frame(frame)
    return order_by_sums(frame)


def start_rules(frame):
    check_frame(frame)
    return cell_rules_started(frame)


def sums_of_monomial(frame, monomial):
    check_letters(frame, monomial)
    return sums_with_letters(frame, monomial)


def are_tables(frame, value):
    """Whether any value is a tuple of not too many tables."""
    if not isinstance(value, tuple) or len(value) > MOST_TABLES:
        return False
    return all([is_table_of(frame, table) for table in value])


def is_word(value, word):
    return isinstance(value, str) and value == word


def has_form_of_yes(frame, value):
    if not isinstance(value, tuple) or len(value) != 3 or not is_word(value[0], "whole"):
        return False
    _, rules, roads = value
    if not are_rules(order_by_sums(frame), rules) or not isinstance(roads, tuple):
        return False
    return all([are_tables(frame, road) for road in roads])


def has_form_of_no(frame, value):
    if not isinstance(value, tuple) or len(value) != 4 or not is_word(value[0], "parted"):
        return False
    _, table, other, closed = value
    return is_table_of(frame, table) and is_table_of(frame, other) and are_tables(frame, closed)


def keep_sums(frame, rules):
    return all([sums_with_letters(frame, ahead) == sums_with_letters(frame, behind) for ahead, behind in rules])


def have_starts_one_end(frame, readies):
    """Whether both sides of each start rule have one end, no greater count being met."""
    for ahead, behind in cell_rules_started(frame):
        end = end_within(readies, ahead, MOST_COUNT)
        if end is None or end != end_within(readies, behind, MOST_COUNT):
            return False
    return True


def are_roads_of(frame, book, rules, roads):
    """Whether there is, cell rule by cell rule, a road from its table ahead to that behind."""
    pairs = rules_of_cells(rules, len(frame[1]))
    if len(pairs) != len(roads):
        return False
    for (ahead, behind), road in zip(pairs, roads):
        if len(road) == 0 or road[0] != ahead or road[-1] != behind or not is_way(book, road):
            return False
    return True


def reason_against_yes(frame, book, rules, roads):
    readies = made_ready(rules)
    if not keep_sums(frame, rules):
        return "sums"
    if not have_starts_one_end(frame, readies):
        return "start"
    if not is_closed_up(readies, MOST_COUNT):
        return "overlap"
    if not are_roads_of(frame, book, rules, roads):
        return "roads"
    return None


def reason_against_no(frame, book, table, other, closed):
    if sums_by(frame, table) != sums_by(frame, other):
        return "sums"
    if not is_rising(closed) or table not in closed or other in closed:
        return "closed"
    inside = {here: True for here in closed}
    steps = Steps(book)
    for here in closed:
        if not all([to in inside for to in steps.tables_from(here)]):
            return "closed"
    return None


def reason(frame, book, value):
    check_book(frame, book)
    if has_form_of_yes(frame, value):
        return reason_against_yes(frame, book, value[1], value[2])
    if has_form_of_no(frame, value):
        return reason_against_no(frame, book, value[1], value[2], value[3])
    return "form"


def is_paper(frame, book, value):
    return reason(frame, book, value) is None
