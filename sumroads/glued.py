"""Models glued of parts: CUTS of their names, exchanges, and the FORMULA BOOK of fitted ones."""

from sumroads.errors import HasHole, HasVoids, InvalidCut, NotFitted, TooMany
from sumroads.frames import frame_of
from sumroads.holes import are_names_of, friends_among, sequence_of
from sumroads.integers import is_rising
from sumroads.models import check_model, choices, places_of
from sumroads.moves import MOST_MOVES
from sumroads.webs import are_tied, is_close_lot, is_fitted, names_of


def is_cut_of(model, value):
    """As is_cut, of a model that is known to be one."""
    if not isinstance(value, tuple) or len(value) != 3:
        return False
    if not all([are_names_of(model, names) and is_rising(names) for names in value]):
        return False
    between, near, far = value
    if sorted(between + near + far) != names_of(model) or not near or not far:
        return False
    return is_close_lot(model, between) and not any([are_tied(model, one, other) for one in near for other in far])


def is_cut(model, value):
    check_model(model)
    return is_cut_of(model, value)


def exchanges(model, cut):
    check_model(model)
    if not is_cut_of(model, cut):
        raise InvalidCut(cut)
    if len(model[2]) > 0:
        raise HasVoids()
    return exchanges_of(model, cut)


def exchanges_of(model, cut):
    """The sorted exchanges of a cut of a model without voids."""
    cells = {place: at for at, place in enumerate(places_of(model))}
    middles, nears, fars = [choices([model[1][name] for name in names]) for names in cut]
    found = []
    for middle in middles:
        for one, near in enumerate(nears):
            for other in nears[one + 1:]:
                for at, far in enumerate(fars):
                    for further in fars[at + 1:]:
                        ups = [(middle, near, far), (middle, other, further)]
                        downs = [(middle, near, further), (middle, other, far)]
                        found.append(row_of(cells, cut, ups, downs))
    return sorted(found)


def row_of(cells, cut, ups, downs):
    """The row with 1 at the cells of ups, -1 at those of downs; each told by the values of the cut's names."""
    row = [0] * len(cells)
    for told in ups:
        row[cells[place_of(cut, told)]] = 1
    for told in downs:
        row[cells[place_of(cut, told)]] = -1
    return tuple(row)


def place_of(cut, told):
    values = {}
    for names, positions in zip(cut, told):
        for name, position in zip(names, positions):
            values[name] = position
    return tuple([values[name] for name in sorted(values)])


def cuts_of(model):
    """The cuts of the sequence; HasHole if there is none."""
    order = sequence_of(model)
    if order is None:
        raise HasHole()
    found = []
    for at in range(len(order)):
        cut = cut_at(model, order, at)
        if cut is not None:
            found.append(cut)
    return found


def cut_at(model, order, at):
    """The cut for the name at this position of the sequence, None if there is none for it."""
    later = order[at + 1:]
    between = friends_among(model, order[at], later)
    near = [order[at]]
    far = [name for name in later if name not in between]
    if not far:
        return None
    for place in reversed(range(at)):
        if any([friend in far for friend in friends_among(model, order[place], order[place + 1:])]):
            far.append(order[place])
        else:
            near.append(order[place])
    return (tuple(sorted(between)), tuple(sorted(near)), tuple(sorted(far)))


def cuts(model):
    check_model(model)
    return cuts_of(model)


def formula_book(model):
    if not is_fitted(model):
        raise NotFitted()
    found = cuts_of(model)
    # The moves are moves of a frame, so there must be one.
    frame_of(model)
    moves = {row: True for cut in found for row in exchanges_of(model, cut)}
    if len(moves) > MOST_MOVES:
        raise TooMany("moves", MOST_MOVES)
    return tuple(sorted(moves))
