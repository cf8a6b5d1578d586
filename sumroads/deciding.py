"""Whether a book is whole, told with a paper; what it lacks, and how it is filled up."""

from sumroads.elimination import elimination_rules, rules_of_cells
from sumroads.errors import TooMany
from sumroads.kernels import MOST_SUM, sums_by
from sumroads.moves import MOST_MOVES, check_book
from sumroads.orders import MOST_COUNT
from sumroads.papers import is_paper
from sumroads.reach import walked
from sumroads.roads import road_along
from sumroads.wholebooks import as_book, change_of_rule, is_small


def cell_rules(frame, rules):
    """The cell rules of some rules, cut to the cells; TooMany if one is no pair of tables."""
    found = rules_of_cells(rules, len(frame[1]))
    for ahead, _ in found:
        if max(sums_by(frame, ahead)) > MOST_SUM:
            raise TooMany("sums", MOST_SUM)
    return found


def decided(frame, book):
    check_book(frame, book)
    rules = elimination_rules(frame)
    roads = []
    for ahead, behind in cell_rules(frame, rules):
        come_to = walked(book, ahead)
        road = road_along(come_to, behind)
        if road is None:
            return ("parted", ahead, behind, tuple(sorted(come_to)))
        roads.append(road)
    paper = ("whole", rules, tuple(roads))
    if not is_paper(frame, book, paper):
        # All else holds, so it can only be that a greater count is met.
        raise TooMany("counts", MOST_COUNT)
    return paper


def first_parted(frame, book):
    check_book(frame, book)
    for ahead, behind in cell_rules(frame, elimination_rules(frame)):
        if behind not in walked(book, ahead):
            return (ahead, behind)
    return None


def is_whole_book(frame, book):
    return first_parted(frame, book) is None


def lacking(frame, book):
    check_book(frame, book)
    found = []
    for rule in cell_rules(frame, elimination_rules(frame)):
        if rule[1] not in walked(book, rule[0]):
            found.append(change_of_rule(rule))
    # They are no book: more may be lacking than a book has.
    if not all([is_small(move) for move in found]):
        raise TooMany("moves", MOST_MOVES)
    return sorted(found)


def filled_up(frame, book):
    check_book(frame, book)
    moves = book
    for rule in cell_rules(frame, elimination_rules(frame)):
        if rule[1] not in walked(moves, rule[0]):
            moves = moves + (change_of_rule(rule),)
    return as_book(sorted(moves))
