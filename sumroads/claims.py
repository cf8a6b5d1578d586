"""CLAIMS: words, each with as many tree values as are told of it."""

from sumroads.trees import is_tree

CLAIM_PARTS = {
    "whole": 4, "parted": 5, "ceilings": 6, "road": 3, "straight": 2, "falls": 3, "sum": 3, "symmetry": 3,
}


def has_form_of_claim(value):
    """Whether any value is a claim, taken or not."""
    if not isinstance(value, tuple) or len(value) == 0:
        return False
    word = value[0]
    if not isinstance(word, str) or word not in CLAIM_PARTS or len(value) != 1 + CLAIM_PARTS[word]:
        return False
    return all([is_tree(part) for part in value[1:]])
