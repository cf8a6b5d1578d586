"""The CHEAPEST table of a lot, by whole rules and by listing; FALLING ROADS to it."""

from sumroads.errors import EmptyLot, TooMany
from sumroads.filling import first_tables
from sumroads.lots import MOST_TABLES, check_sums, check_table, lot
from sumroads.orders import rank_of
from sumroads.prices import check_prices, order_of_prices
from sumroads.ready import made_ready, position_going
from sumroads.wholebooks import end_in_lot, whole_rules


def cheapest(frame, table, prices):
    check_table(frame, table)
    check_prices(frame, prices)
    return end_in_lot(frame, order_of_prices(prices), table)


def cheapest_in(frame, sums, prices):
    check_sums(frame, sums)
    check_prices(frame, prices)
    tables = first_tables(frame, sums, 1)
    if not tables:
        raise EmptyLot()
    return end_in_lot(frame, order_of_prices(prices), tables[0])


def is_cheapest(frame, table, prices):
    check_table(frame, table)
    check_prices(frame, prices)
    return position_going(ready_by_prices(frame, prices), table) is None


def ready_by_prices(frame, prices):
    """The whole rules for the order by prices, made ready."""
    return made_ready(whole_rules(frame, order_of_prices(prices)))


def plain_cheapest(frame, sums, prices):
    check_sums(frame, sums)
    check_prices(frame, prices)
    tables = lot(frame, sums)
    if not tables:
        raise EmptyLot()
    order = order_of_prices(prices)
    ranked = [(rank_of(order, table), table) for table in tables]
    return min(ranked)[1]


def falling_road(frame, table, prices):
    check_table(frame, table)
    check_prices(frame, prices)
    readies = ready_by_prices(frame, prices)
    road = [table]
    at = position_going(readies, table)
    while at is not None:
        if len(road) == MOST_TABLES:
            raise TooMany("tables", MOST_TABLES)
        road.append(readies[at].done(road[-1], 1))
        at = position_going(readies, road[-1])
    return tuple(road)
