"""Prices, one for each of so many things, and what some of these cost together."""

from kindleweb.errors import BadPrices


def made_prices(prices, many):
    if len(prices) != many:
        raise BadPrices("there is one price for each")
    if any([price < 0 for price in prices]):
        raise BadPrices("no price is below 0")
    return tuple(prices)


def price_sum(prices, some):
    return sum([prices[one] for one in some])
