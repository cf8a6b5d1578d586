"""True claims of each word, and claims with one thing otherwise, for the tests alone."""

from sumroads.ceilings import closed_lot_under, straight_road, whole_under_all
from sumroads.cheapest import falling_road
from sumroads.deciding import decided
from sumroads.judge import claim_of
from sumroads.kernels import basis, change_by
from sumroads.roads import road
from sumroads.symmetries import symmetries
from sumroads.unparted import parted_sum
from tests.claiming import symmetry_rows
from tests.helpers import lot_plainly, sums_plainly
from tests.test_deciding import frames_and_books
from tests.walking import distances_plainly


def true_claims(seed, many):
    """Tuples (draw, claims), the claims of one frame, of all words as far as they can be made."""
    for draw, frame, book in frames_and_books(seed, many):
        cells = len(frame[1][0])
        found = [claim_of(frame, book, decided(frame, book))]
        told = whole_under_all(frame, book)
        if told[0] == "ceilings":
            _, ceilings, table, other = told
            found.append(("ceilings", frame, book, ceilings, table, other, tuple(closed_lot_under(frame, book, ceilings, table))))
        table = tuple(draw.randint(0, 2) for _ in range(cells))
        found.append(("road", frame, book, road(frame, book, table, draw.choice(sorted(distances_plainly(book, table))))))
        other = draw.choice(lot_plainly(frame, sums_plainly(frame, table)))
        found.append(("straight", frame, straight_road(frame, table, other)))
        prices = tuple(draw.randint(0, 3) for _ in range(cells))
        found.append(("falls", frame, ("order", prices), falling_road(frame, table, prices)))
        change = change_by(frame, tuple(draw.randint(-3, 3) for _ in basis(frame)))
        if max(abs(number) for number in change) <= 99:
            found.append(("sum", frame, change, tuple(parted_sum(frame, change))))
        exchange = draw.choice(symmetries(frame))
        found.append(("symmetry", frame, exchange, symmetry_rows(frame, exchange)))
        yield draw, found


def places_in(value, ahead=()):
    """The places of all parts of a value, told by positions."""
    yield ahead
    if type(value) is tuple:
        for at, part in enumerate(value):
            yield from places_in(part, ahead + (at,))


def part_at(value, place):
    for at in place:
        value = value[at]
    return value


def with_part(value, place, part):
    if not place:
        return part
    at = place[0]
    return value[:at] + (with_part(value[at], place[1:], part),) + value[at + 1:]


def otherwise(draw, part):
    """Some values that are like a part, but not the same."""
    if type(part) is int:
        return [part + 1, part - 1, -part, part + draw.randint(2, 5), str(part), None, bool(part), (part,), 10 ** 30, 20001]
    if type(part) is str:
        return [part + "s", part[:-1], part.upper(), (part,), None, part[0] * 13, 0]
    found = [list(part), None, (), part + ((),), part + (0,), (part,)]
    if part:
        at = draw.randrange(len(part))
        found += [part[:at] + part[at + 1:], part[:at] + part[at:at + 1] + part[at:], part[::-1], part[1:], part[:-1],
                  part + part[-1:], tuple(sorted(part, key=repr, reverse=True))]
    return found
