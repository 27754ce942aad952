"""Many days of a market, near and far, and the round to which they come."""

from math import lcm

from learnprices.errors import TooMany
from learnprices.markets import LAST_DAY, check_count, check_market, day_done, first_prices

MOST_TOLD = 500
MOST_WALKED = 5000
TWELVE = 12


def days(market, many):
    """Tell (the prices ahead of it, what each buyer buys) of each of the first so many days."""
    check_market(market)
    check_count(many, MOST_TOLD)
    told = []
    prices = first_prices(market)
    for day in range(many):
        bought, behind = day_done(market, prices, day)
        told.append((prices, bought))
        prices = behind
    return told


def walk(market):
    """Tell (the days till one is as an earlier one was, as days does, and the number of that earlier one).

    The day behind those told has the prices of the earlier one, and twelve divides
    the number of days between, so that all that follows is the same, too.
    """
    told = []
    seen = {}
    prices = first_prices(market)
    while (prices, len(told) % TWELVE) not in seen:
        if len(told) == MOST_WALKED:
            raise TooMany(f"no round within {MOST_WALKED} days")
        seen[(prices, len(told) % TWELVE)] = len(told)
        bought, behind = day_done(market, prices, len(told))
        told.append((prices, bought))
        prices = behind
    return told, seen[(prices, len(told) % TWELVE)]


def times(day, many, first, long):
    """How often a walked day is done within the first so many, if long days are a round from first on."""
    if day >= many:
        return 0
    if day < first:
        return 1
    return (many - 1 - day) // long + 1


def after(market, many):
    """Tell (the prices behind the first so many days, (how many were sold, how much was taken) of each good)."""
    check_market(market)
    check_count(many, LAST_DAY)
    told, first = walk(market)
    long = len(told) - first
    sums = [[0, 0] for _ in first_prices(market)]
    for day, (prices, bought) in enumerate(told):
        often = times(day, many, first, long)
        for good in bought:
            if good is not None:
                sums[good][0] += often
                sums[good][1] += often * prices[good]
    alike = many if many < first else first + (many - first) % long
    return told[alike][0], [(sold, taken) for sold, taken in sums]


def turn_of(market):
    """How many days later the same buyers come, on whichever day."""
    _, buyers = market
    turn = 1
    for buyer in buyers:
        turn = lcm(turn, buyer[0])
    return turn


def period(market):
    """Tell (first, long): from day first on, long days later prices and buyers are the same."""
    check_market(market)
    told, first = walk(market)
    turn = turn_of(market)
    # A round of whole turns, taken twelve times, is one that twelve divides. So no round
    # begins ahead of first, and only its length is looked for.
    for long in range(turn, len(told) - first, turn):
        if told[first + long][0] == told[first][0]:
            return first, long
    return first, len(told) - first


def settles(market):
    """Tell (the first day from which prices don't change any more, these prices), or None."""
    check_market(market)
    told, first = walk(market)
    prices, _ = told[first]
    if any([row[0] != prices for row in told[first:]]):
        return None
    # Prices that stay on all days of a round begin it as soon as they are there, so first is the first day.
    return first, prices
