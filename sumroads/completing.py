"""Rules completed and reduced: overlap by overlap, those of the least grade first."""

from heapq import heappop, heappush

from sumroads.errors import TooMany
from sumroads.integers import inner, put_on
from sumroads.orders import MOST_COUNT
from sumroads.ready import Ready, fits, greater_counts, is_nowhere_above, led_out, letters_of
from sumroads.rules import MOST_RULES, rule_between


class Knit:
    """A rule that was found: made ready, its position, and how much further it reaches.

    further: how much the grade at which it was found is above that of its ahead.
    """

    def __init__(self, ready, position, further):
        self.ready = ready
        self.position = position
        self.further = further


class Completing:
    """Rules on their way to complete ones.

    knits: all rules that were found; live: those of them whose aheads hold no further one's;
    readies: these made ready. pairs: for two positions the monomial of their overlap, as long
    as it is to be looked at. queue: what is to be looked at, the least grade first.
    free: a bit for each letter that can be taken back: some monomial with it is led alike with
    nought. Such letters are taken off where both sides of a rule have them.

    If all rules that are put in have sides of one grade each, whatever is found at a grade
    stays, and what comes of greater grades is not needed for monomials of lesser ones.
    """

    def __init__(self, order, grade):
        self.order = order
        self.grade = grade
        self.knits = []
        self.live = []
        self.readies = []
        self.pairs = {}
        self.queue = []
        self.free = 0
        self.told = 0

    def put_in(self, one, other):
        """Two monomials that are to be led alike."""
        grade = max(inner(self.grade, one), inner(self.grade, other))
        self.told += 1
        heappush(self.queue, (grade, self.told, None, (one, other)))

    def go_on(self, most, last):
        """Goes on till nothing is left, more than so many rules are live, or the grade is beyond last.

        Both bounds may be None. Tells whether nothing is left.
        """
        while self.queue:
            if most is not None and len(self.live) > most:
                return False
            if last is not None and self.queue[0][0] > last:
                return False
            grade, _, pair, sides = heappop(self.queue)
            if pair is not None:
                sides = self.sides_of(pair)
            if sides is not None:
                self.look_at(sides, grade)
        return most is None or len(self.live) <= most

    def sides_of(self, pair):
        """Both results of an overlap, None if it needs no look any more."""
        if pair not in self.pairs:
            return None
        monomial, _ = self.pairs.pop(pair)
        one, other = pair
        return (self.knits[one].ready.done(monomial, 1), self.knits[other].ready.done(monomial, 1))

    def look_at(self, sides, grade):
        one, other = self.eased(sides[0], sides[1])
        one, other = self.end_of(one), self.end_of(other)
        if one != other:
            one, other = self.eased(one, other)
            ahead, behind = rule_between(self.order, one, other)
            self.find_free(ahead, behind)
            self.put_rule(ahead, behind, grade)

    def end_of(self, monomial):
        return led_out(self.readies, monomial)

    def eased(self, one, other):
        """Both without the free letters that they have in common."""
        both = letters_of(one) & letters_of(other) & self.free
        if both == 0:
            return one, other
        common = []
        for letter, (count, more) in enumerate(zip(one, other)):
            common.append(min(count, more) if (both >> letter) & 1 else 0)
        return put_on(one, -1, common), put_on(other, -1, common)

    def find_free(self, one, other):
        """What is led alike with free letters alone, or with nought, has free letters alone."""
        letters, others = letters_of(one), letters_of(other)
        if letters & ~self.free == 0 or others & ~self.free == 0:
            self.free = self.free | letters | others

    def put_rule(self, ahead, behind, grade):
        own = inner(self.grade, ahead)
        knit = Knit(Ready(ahead, behind), len(self.knits), max(own, inner(self.grade, behind), grade) - own)
        self.drop_pairs(knit.ready)
        self.make_pairs(knit)
        self.knits.append(knit)
        self.live = [other for other in self.live if not fits(knit.ready.needs, other.ready.ahead)] + [knit]
        self.readies = [other.ready for other in self.live]

    def drop_pairs(self, ready):
        needless = [pair for pair in self.pairs if self.is_needless(pair, ready)]
        for pair in needless:
            del self.pairs[pair]

    def is_needless(self, pair, ready):
        """Whether a new rule goes by the overlap of a pair and overlaps with both within it."""
        monomial, bits = self.pairs[pair]
        if ready.bits & ~bits != 0 or not fits(ready.needs, monomial):
            return False
        return monomial not in [greater_counts(self.knits[at].ready.ahead, ready.ahead) for at in pair]

    def make_pairs(self, knit):
        """The pairs of a new rule, but those whose overlap holds that of another one of them.

        Where the aheads share no letter there is nothing to look at, and then no other pair
        with this overlap is needed.
        """
        found = []
        for other in self.live:
            monomial = greater_counts(other.ready.ahead, knit.ready.ahead)
            shared = int(other.ready.bits & knit.ready.bits != 0)
            found.append((inner(self.grade, monomial), shared, other.position, monomial))
        kept = []
        for grade, shared, position, monomial in sorted(found):
            bits = letters_of(monomial)
            if self.holds_one(kept, monomial, bits):
                continue
            kept.append((monomial, bits))
            if shared:
                self.put_pair((position, knit.position), monomial, bits, grade + self.further_of(position, knit))

    def holds_one(self, kept, monomial, bits):
        for least, letters in kept:
            if letters & ~bits == 0 and is_nowhere_above(least, monomial):
                return True
        return False

    def further_of(self, position, knit):
        return max(self.knits[position].further, knit.further)

    def put_pair(self, pair, monomial, bits, grade):
        self.pairs[pair] = (monomial, bits)
        self.told += 1
        heappush(self.queue, (grade, self.told, pair, None))

    def rules(self):
        """The reduced rules, if nothing is left to be looked at."""
        return tuple(sorted([(ready.ahead, self.end_of(ready.behind)) for ready in self.readies]))


def check_counts(rules):
    for ahead, behind in rules:
        if max(ahead) > MOST_COUNT or max(behind) > MOST_COUNT:
            raise TooMany("counts", MOST_COUNT)


def rules_in_bounds(work):
    """The reduced rules, nothing being left; TooMany by these alone."""
    if len(work.live) > MOST_RULES:
        raise TooMany("rules", MOST_RULES)
    rules = work.rules()
    check_counts(rules)
    return rules


def work_on(order, rules, grade):
    work = Completing(order, grade)
    for ahead, behind in rules:
        work.put_in(ahead, behind)
    return work


def plain_grade(order):
    return tuple([1] * len(order[1]))


def reduced_rules(order, rules):
    """The reduced rules of any rules."""
    work = work_on(order, rules, plain_grade(order))
    work.go_on(None, None)
    return rules_in_bounds(work)


def reduced_by_grade(order, rules, grade):
    """The reduced rules of rules both of whose sides have one grade each.

    So it ends as soon as more rules than wanted are found.
    """
    work = work_on(order, rules, grade)
    work.go_on(MOST_RULES, None)
    return rules_in_bounds(work)
