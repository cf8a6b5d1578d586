"""Rules made ready, so that it is quickly seen which of them goes by a monomial."""


def needs_of(monomial):
    """The tuples (letter, count) of the letters with a count above 0."""
    return [(letter, count) for letter, count in enumerate(monomial) if count > 0]


def letters_of(monomial):
    """A number with a bit for each letter with a count above 0."""
    bits = 0
    for letter, count in enumerate(monomial):
        if count > 0:
            bits = bits | (1 << letter)
    return bits


def greater_counts(one, other):
    """The monomial of the greater counts of both."""
    return tuple([max(count, more) for count, more in zip(one, other)])


def fits(needs, monomial):
    for letter, count in needs:
        if monomial[letter] < count:
            return False
    return True


def is_nowhere_above(one, other):
    return all([count <= more for count, more in zip(one, other)])


class Ready:
    """A rule with what is looked at again and again.

    change: what is added where it is done; needs and bits: those of its ahead.
    """

    def __init__(self, ahead, behind):
        self.ahead = ahead
        self.behind = behind
        self.needs = needs_of(ahead)
        self.bits = letters_of(ahead)
        self.change = [more - count for count, more in zip(ahead, behind)]

    def done(self, monomial, times):
        return tuple([count + times * more for count, more in zip(monomial, self.change)])

    def most_times(self, monomial):
        """How often it can be done at once: as often as its ahead fits in side by side."""
        return min([monomial[letter] // count for letter, count in self.needs])


def made_ready(rules):
    return [Ready(ahead, behind) for ahead, behind in rules]


def position_going(readies, monomial):
    """The position of the first rule that goes by the monomial, None if none goes."""
    missing = ~letters_of(monomial)
    for at, ready in enumerate(readies):
        if ready.bits & missing == 0 and fits(ready.needs, monomial):
            return at
    return None


def led_out(readies, monomial):
    """An end in some way, come to in few doings."""
    at = position_going(readies, monomial)
    while at is not None:
        ready = readies[at]
        monomial = ready.done(monomial, ready.most_times(monomial))
        at = position_going(readies, monomial)
    return monomial
