"""The judge: which claims are taken, and where others go wrong."""

from sumroads.claims import has_form_of_claim
from sumroads.errors import InvalidPaper
from sumroads.judging import wrong_positions
from sumroads.moves import check_book
from sumroads.trees import is_tree

PAPER_PARTS = {"whole": 3, "parted": 4}


def is_claim(value):
    return has_form_of_claim(value)


def judged(value):
    if not has_form_of_claim(value):
        return ("bad", ())
    wrong = wrong_positions(value)
    if wrong is None:
        return ("bad", ())
    if wrong:
        return ("bad", (wrong[0],))
    return ("ok", value[0])


def is_paper_by_form(value):
    """Whether any value is a tuple with the word and as many tree values as a paper has."""
    if not isinstance(value, tuple) or len(value) == 0 or not isinstance(value[0], str):
        return False
    if value[0] not in PAPER_PARTS or len(value) != PAPER_PARTS[value[0]]:
        return False
    return all([is_tree(part) for part in value[1:]])


def claim_of(frame, book, paper):
    check_book(frame, book)
    if not is_paper_by_form(paper):
        raise InvalidPaper(paper)
    return (paper[0], frame, book) + paper[1:]
