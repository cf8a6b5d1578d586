"""PRICES of cells, the cost of tables, and the order by prices."""

from sumroads.errors import InvalidPrices
from sumroads.integers import are_counts, inner
from sumroads.kernels import cells_of, check_frame
from sumroads.lots import check_table
from sumroads.orders import MOST_WEIGHT


def is_prices(frame, value):
    check_frame(frame)
    return are_counts(value, cells_of(frame), MOST_WEIGHT)


def check_prices(frame, value):
    if not is_prices(frame, value):
        raise InvalidPrices(value)


def cost(frame, table, prices):
    check_table(frame, table)
    check_prices(frame, prices)
    return inner(prices, table)


def price_order(frame, prices):
    check_prices(frame, prices)
    return order_of_prices(prices)


def order_of_prices(prices):
    return ("order", prices)
