"""Prices that stay, and how many others come to them."""

from learnprices.days import turn_of
from learnprices.errors import TooMany
from learnprices.markets import check_market, check_prices, day_done

MOST_PRICES = 3000


def no_day_changes(market, prices):
    """What stays tells, of a market and prices that are known to be good."""
    # Behind a turn the same buyers come again, so its days stand for all others.
    return all([day_done(market, prices, day)[1] == prices for day in range(turn_of(market))])


def stays(market, prices):
    """Whether no day changes these prices, whichever it is."""
    check_market(market)
    sellers, _ = market
    check_prices(sellers, prices)
    return no_day_changes(market, prices)


def all_prices(market):
    """All prices that the sellers can have, rising."""
    sellers, _ = market
    rows = [()]
    for seller in sellers:
        low, high = seller[4:]
        # Each seller leaves as many or makes more, so too many for some are too many for all.
        if len(rows) * (high - low + 1) > MOST_PRICES:
            raise TooMany(f"the sellers can have more than {MOST_PRICES} prices")
        rows = [row + (price,) for row in rows for price in range(low, high + 1)]
    return rows


def steady(market):
    """All prices that stay, of all that sellers can have, rising."""
    check_market(market)
    return [prices for prices in all_prices(market) if no_day_changes(market, prices)]


def turn_behind(market, prices):
    """The prices behind a turn that begins with these on day 0."""
    for day in range(turn_of(market)):
        _, prices = day_done(market, prices, day)
    return prices


def follow(market, prices, ends):
    """Note in ends, for these prices and all that follow, to which that stay they come, or None."""
    way = []
    while prices not in ends:
        way.append(prices)
        # Till more is known they come to none, and that holds if their way leads back to them.
        ends[prices] = prices if no_day_changes(market, prices) else None
        prices = turn_behind(market, prices)
    for passed in way:
        ends[passed] = ends[prices]


def pulls(market):
    """Tell (rows of (prices that stay, how many come to them), how many come to none), of all prices on day 0."""
    check_market(market)
    ends = {}
    counts = {}
    never = 0
    for prices in all_prices(market):
        follow(market, prices, ends)
        end = ends[prices]
        if end is None:
            never += 1
        else:
            counts[end] = counts.get(end, 0) + 1
    return sorted(counts.items()), never
