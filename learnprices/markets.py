"""Markets, what they refuse, and a day of one."""

from learnprices.errors import BadBuyer, BadCount, BadPrices, BadSeller

MOST_SELLERS = 4
MOST_BUYERS = 6
MOST_STOCK = 5
MOST_STEP = 9
MOST_PRICE = 99
MOST_EVERY = 4
LAST_DAY = 10 ** 12


def is_within(number, least, most):
    """Whether it is a whole number from least to most."""
    # Python takes True and False for integers; here they are none.
    return isinstance(number, int) and not isinstance(number, bool) and least <= number <= most


def can_sell(seller):
    """Whether it is a seller that can be."""
    if not isinstance(seller, tuple) or len(seller) != 6:
        return False
    price, stock, up, down, low, high = seller
    # Low ahead of high ahead of price, as each is a bound of the next one.
    return (is_within(low, 0, MOST_PRICE) and is_within(high, low, MOST_PRICE)
            and is_within(price, low, high) and is_within(stock, 1, MOST_STOCK)
            and is_within(up, 0, MOST_STEP) and is_within(down, 0, MOST_STEP))


def can_buy(buyer, goods):
    """Whether it is a buyer that can be where there are so many goods."""
    if not isinstance(buyer, tuple) or len(buyer) != 3:
        return False
    every, first, worths = buyer
    if not isinstance(worths, tuple) or len(worths) != goods:
        return False
    return (is_within(every, 1, MOST_EVERY) and is_within(first, 0, every - 1)
            and all([is_within(worth, 0, MOST_PRICE) for worth in worths]))


def check_market(market):
    """Refuse sellers and buyers that can't be, all sellers first."""
    sellers, buyers = market
    for number, seller in enumerate(sellers):
        if number >= MOST_SELLERS or not can_sell(seller):
            raise BadSeller(number=number)
    for number, buyer in enumerate(buyers):
        if number >= MOST_BUYERS or not can_buy(buyer, len(sellers)):
            raise BadBuyer(number=number)


def check_prices(sellers, prices):
    """Refuse prices that these sellers can't have."""
    for good, price in enumerate(prices):
        if good >= len(sellers):
            raise BadPrices(good=good)
        low, high = sellers[good][4:]
        if not is_within(price, low, high):
            raise BadPrices(good=good)
    if len(prices) < len(sellers):
        raise BadPrices(good=len(prices))


def check_count(count, most):
    """Refuse a count, or a day, that is not from 0 to the most."""
    if not is_within(count, 0, most):
        raise BadCount(f"not a number from 0 to {most}")


def first_prices(market):
    """The prices ahead of day 0."""
    sellers, _ = market
    return tuple([seller[0] for seller in sellers])


def comes(buyer, day):
    """Whether this buyer comes on this day."""
    every, first, _ = buyer
    return day % every == first


def good_for(worths, prices, left):
    """The good that a buyer takes of what is left, or None."""
    # The least of these rows is the good worth most above its price, then the cheapest, then the first.
    rows = [(prices[good] - worth, prices[good], good) for good, worth in enumerate(worths)
            if left[good] > 0 and prices[good] <= worth]
    if not rows:
        return None
    return min(rows)[2]


def price_behind(seller, price, left):
    """The price behind a day at whose end so many are left."""
    _, stock, up, down, low, high = seller
    if left == 0:
        return min(high, price + up)
    if left == stock:
        return max(low, price - down)
    return price


def day_done(market, prices, day):
    """What day_of tells, of a market, prices and a day that are known to be good."""
    sellers, buyers = market
    left = [seller[1] for seller in sellers]
    bought = []
    for buyer in buyers:
        good = None
        if comes(buyer, day):
            good = good_for(buyer[2], prices, left)
        if good is not None:
            left[good] -= 1
        bought.append(good)
    behind = [price_behind(seller, prices[good], left[good]) for good, seller in enumerate(sellers)]
    return bought, tuple(behind)


def day_of(market, prices, day):
    """Tell (what each buyer buys on this day at these prices, the prices behind it)."""
    check_market(market)
    sellers, _ = market
    check_prices(sellers, prices)
    check_count(day, LAST_DAY)
    return day_done(market, prices, day)
