"""The document's days done plainly, one after another, and markets to try them on."""

import itertools
import random

# Prices rise by two when sold, and fall by one when not: a round of six days from day 7 on.
ROUND = (((20, 1, 2, 1, 0, 99),), ((2, 0, (25,)),))

# Four goods, each with a buyer of its own, with rounds of 17, 13, 11 and 7 days: far more than 5,000 together.
LONG = (((50, 1, 9, 8, 1, 99), (50, 1, 9, 4, 1, 99), (50, 1, 9, 2, 1, 99), (50, 1, 4, 3, 1, 99)),
        ((1, 0, (50, 0, 0, 0)), (1, 0, (0, 50, 0, 0)), (1, 0, (0, 0, 50, 0)), (1, 0, (0, 0, 0, 50))))

_GOODS = ((59, 1, 9, 8, 27, 83), (63, 1, 7, 4, 15, 94), (25, 1, 1, 8, 2, 93))
_BUYERS = ((4, 1, (57, 40, 47, 0)), (3, 2, (71, 0, 0, 0)), (1, 0, (54, 82, 65, 0)),
           (4, 0, (77, 88, 0, 0)), (1, 0, (39, 0, 70, 0)))

# The first three goods come to a round of 4,896 days within 39 days. The fourth falls
# every other day till it is at its low: ahead of day 104, or of day 105.
DAYS_5000 = (_GOODS + ((62, 2, 0, 1, 10, 99),), _BUYERS + ((2, 0, (0, 0, 0, 99)),))
DAYS_5001 = (_GOODS + ((63, 2, 0, 1, 10, 99),), _BUYERS + ((2, 1, (0, 0, 0, 99)),))

# It takes 4,865 days to come to a round of 60.
LATE = (((79, 1, 4, 1, 23, 95), (68, 1, 8, 5, 23, 71), (37, 1, 2, 1, 29, 71)),
        ((3, 2, (0, 0, 76)), (4, 2, (0, 70, 0)), (3, 2, (63, 72, 79)),
         (1, 0, (0, 0, 76)), (3, 0, (0, 0, 49)), (1, 0, (0, 0, 0))))


def comers(market, day):
    """The numbers of the buyers that come on a day."""
    return [number for number, (every, first, _) in enumerate(market[1]) if day in range(first, day + 1, every)]


def better(worths, prices, one, other):
    """Whether a buyer would take good one rather than good other."""
    above, other_above = worths[one] - prices[one], worths[other] - prices[other]
    if above != other_above:
        return above > other_above
    if prices[one] != prices[other]:
        return prices[one] < prices[other]
    return one < other


def one_day(market, prices, day):
    """What each buyer buys, and the prices behind the day."""
    sellers, buyers = market
    sold = [0 for _ in sellers]
    bought = [None for _ in buyers]
    for number in comers(market, day):
        worths = buyers[number][2]
        for good in range(len(sellers)):
            if sold[good] == sellers[good][1] or prices[good] > worths[good]:
                continue
            if bought[number] is None or better(worths, prices, good, bought[number]):
                bought[number] = good
        if bought[number] is not None:
            sold[bought[number]] += 1
    behind = []
    for good, (_, stock, up, down, low, high) in enumerate(sellers):
        price = prices[good]
        if sold[good] == stock:
            price += up
        elif sold[good] == 0:
            price -= down
        behind.append(sorted([low, price, high])[1])
    return bought, tuple(behind)


def many_days(market, many):
    """(prices ahead, what is bought) of each day."""
    told = []
    prices = tuple(seller[0] for seller in market[0])
    for day in range(many):
        bought, behind = one_day(market, prices, day)
        told.append((prices, bought))
        prices = behind
    return told


def sums(market, told):
    """(how many were sold, how much was taken) of each good on the days told."""
    rows = []
    for good in range(len(market[0])):
        paid = [prices[good] for prices, bought in told for one in bought if one == good]
        rows.append((len(paid), sum(paid)))
    return rows


def walked(market):
    """The first day with prices as a number of days ago that twelve divides, and that earlier day."""
    told = many_days(market, 5300)
    for day in range(12, 5300):
        for earlier in range(day - 12, -1, -12):
            if told[earlier][0] == told[day][0]:
                return day, earlier
    return None


def had_prices(market):
    """All prices that the sellers can have, rising."""
    return list(itertools.product(*[range(seller[4], seller[5] + 1) for seller in market[0]]))


def come_to(market, prices):
    """The prices which don't change any more to which these come from day 0 on, or None."""
    seen = []
    while (prices, len(seen) % 12) not in seen:
        seen.append((prices, len(seen) % 12))
        _, prices = one_day(market, prices, len(seen) - 1)
    around = {had for had, _ in seen[seen.index((prices, len(seen) % 12)):]}
    return prices if around == {prices} else None


def dealings(market, day):
    """All dealings of a day."""
    goods = range(len(market[0]))
    choices = [[None, *goods] if number in comers(market, day) else [None] for number in range(len(market[1]))]
    return [list(dealing) for dealing in itertools.product(*choices)
            if all(dealing.count(good) <= market[0][good][1] for good in goods)]


def worth_of(market, dealing):
    """The sum of worths that a dealing has."""
    return sum(market[1][number][2][good] for number, good in enumerate(dealing) if good is not None)


def do_support(market, day, dealing, prices):
    """Whether the prices support the dealing."""
    for good, price in enumerate(prices):
        if price != 0 and dealing.count(good) < market[0][good][1]:
            return False
    for number in comers(market, day):
        above = [worth - price for worth, price in zip(market[1][number][2], prices)] + [0]
        if max(above) > above[-1 if dealing[number] is None else dealing[number]]:
            return False
    return True


def some_markets(many, seed, sellers=4, buyers=6, width=20, worth=35):
    """Markets of all kinds, of so many sellers and buyers at the most, the same ones each time."""
    chance = random.Random(seed)
    return [_some_market(chance, sellers, buyers, width, worth) for _ in range(many)]


def _some_market(chance, most_sellers, most_buyers, width, most_worth):
    sellers = []
    for _ in range(chance.randint(0, most_sellers)):
        low = chance.randint(0, 12)
        high = chance.randint(low, low + width)
        sellers.append((chance.randint(low, high), chance.randint(1, 3), chance.randint(0, 9),
                        chance.randint(0, 9), low, high))
    buyers = []
    for _ in range(chance.randint(0, most_buyers)):
        every = chance.randint(1, 4)
        worths = tuple(chance.randint(0, most_worth) for _ in sellers)
        buyers.append((every, chance.randint(0, every - 1), worths))
    return tuple(sellers), tuple(buyers)
