"""Rules done plainly, by the words of the document, for the tests alone."""

import random

from tests.test_orders import greater_plainly


def goes(rule, monomial):
    return all(a <= b for a, b in zip(rule[0], monomial))


def does(rule, monomial):
    return tuple(m - a + b for m, a, b in zip(monomial, *rule))


def rule_plainly(order, one, other):
    return (one, other) if greater_plainly(order, one, other) == 1 else (other, one)


def path_plainly(rules, monomial):
    path = [monomial]
    while True:
        going = [rule for rule in rules if goes(rule, path[-1])]
        if not going:
            return path
        path.append(does(going[0], path[-1]))


def end_plainly(rules, monomial):
    return path_plainly(rules, monomial)[-1]


def ends_plainly(rules, monomial):
    """All ends in some way."""
    seen, edge = {monomial}, {monomial}
    while edge:
        edge = {does(rule, here) for here in edge for rule in rules if goes(rule, here)} - seen
        seen |= edge
    return sorted(here for here in seen if not any(goes(rule, here) for rule in rules))


def overlaps_plainly(rules):
    found = []
    for at in range(len(rules)):
        for further in range(at + 1, len(rules)):
            pairs = list(zip(rules[at][0], rules[further][0]))
            if any(a and b for a, b in pairs):
                monomial = tuple(max(pair) for pair in pairs)
                found.append((at, further, monomial, does(rules[at], monomial), does(rules[further], monomial)))
    return found


def complete_plainly(rules):
    return all(end_plainly(rules, one) == end_plainly(rules, other) for _, _, _, one, other in overlaps_plainly(rules))


def reduced_plainly(order, rules, most=60):
    """Completed overlap by overlap, then reduced; None if that takes more rules."""
    rules = sorted(rules)
    going_on = True
    while going_on:
        going_on = False
        for _, _, _, one, other in overlaps_plainly(rules):
            ends = end_plainly(rules, one), end_plainly(rules, other)
            if ends[0] != ends[1]:
                rules = sorted(rules + [rule_plainly(order, *ends)])
                going_on = True
                break
        if len(rules) > most:
            return None
    kept = []
    for rule in sorted(rules, key=lambda rule: sum(rule[0])):
        if not any(goes(other, rule[0]) for other in kept):
            kept.append(rule)
    return tuple(sorted((ahead, end_plainly(kept, behind)) for ahead, behind in kept))


def alike_plainly(rules, monomial, most):
    """All that is led alike with a monomial, no count being above most on the way."""
    both = list(rules) + [rule[::-1] for rule in rules]
    seen, edge = {monomial}, {monomial}
    while edge:
        edge = {does(rule, here) for here in edge for rule in both if goes(rule, here)}
        edge = {here for here in edge if max(here) <= most} - seen
        seen |= edge
    return seen


def random_rules(draw, letters=3, many=4, size=2, weights=(0, 0, 1, 3)):
    """An order and rising rules of it."""
    order = ("order", tuple(draw.choice(weights) for _ in range(letters)))
    found = set()
    for _ in range(draw.randint(0, many)):
        one, other = (tuple(draw.randint(0, size) for _ in range(letters)) for _ in range(2))
        if one != other:
            found.add(rule_plainly(order, one, other))
    return order, tuple(sorted(found))


def some_rules(seed, times, **told):
    draw = random.Random(seed)
    for _ in range(times):
        yield (draw,) + random_rules(draw, **told)
