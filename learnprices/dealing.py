"""The best dealing of a day's goods, and prices that show that none is better."""

from learnprices.errors import BadDealing, BadPrices, NoBuyer
from learnprices.markets import LAST_DAY, check_count, check_market, comes, is_within


def goods_less(left, good):
    """How many of each good are left, with one of this good less."""
    return left[:good] + (left[good] - 1,) + left[good + 1:]


def best_given(stocks, rows):
    """Tell (the greatest sum of worths, the good or None for each row) of so many goods and rows of worths."""
    # Of all ways to be left with the same goods only the best is gone on with: what follows is the same for all.
    ways = {tuple(stocks): (0, [])}
    for worths in rows:
        wider = {left: (total, given + [None]) for left, (total, given) in ways.items()}
        for left, (total, given) in ways.items():
            for good, worth in enumerate(worths):
                fewer = goods_less(left, good)
                if left[good] > 0 and (fewer not in wider or wider[fewer][0] < total + worth):
                    wider[fewer] = (total + worth, given + [good])
        ways = wider
    return max(list(ways.values()), key=lambda way: way[0])


def check_day(market, day):
    """Refuse a market that can't be, then a day."""
    check_market(market)
    check_count(day, LAST_DAY)


def stocks_of(market):
    """How many of each good there are."""
    sellers, _ = market
    return [seller[1] for seller in sellers]


def worths_on(market, day):
    """The worths of each buyer that comes on this day."""
    _, buyers = market
    return [buyer[2] for buyer in buyers if comes(buyer, day)]


def best(market, day):
    """Tell (the greatest sum of worths that dealings have, a dealing that has it)."""
    check_day(market, day)
    _, buyers = market
    total, given = best_given(stocks_of(market), worths_on(market, day))
    numbers = [number for number, buyer in enumerate(buyers) if comes(buyer, day)]
    dealing = [None for _ in buyers]
    for number, good in zip(numbers, given):
        dealing[number] = good
    return total, dealing


def gain_of(market, day, number):
    """By how much the greatest sum is greater than without this buyer."""
    check_day(market, day)
    sellers, buyers = market
    if not is_within(number, 0, len(buyers) - 1):
        raise NoBuyer(number=number)
    others = (sellers, buyers[:number] + buyers[number + 1:])
    stocks = stocks_of(market)
    return best_given(stocks, worths_on(market, day))[0] - best_given(stocks, worths_on(others, day))[0]


def sum_with(market, day, good, more):
    """The greatest sum with so many more of this good, or fewer, if that is below 0."""
    stocks = stocks_of(market)
    stocks[good] += more
    return best_given(stocks, worths_on(market, day))[0]


def least_prices(market, day):
    """The least prices that support a best dealing, good by good."""
    check_day(market, day)
    return [sum_with(market, day, good, 1) - sum_with(market, day, good, 0) for good in range(len(market[0]))]


def greatest_prices(market, day):
    """The greatest prices that support a best dealing, good by good."""
    check_day(market, day)
    return [sum_with(market, day, good, 0) - sum_with(market, day, good, -1) for good in range(len(market[0]))]


def left_by(market, day, goods):
    """How many of each good this dealing leaves; it is refused if it is none."""
    _, buyers = market
    left = stocks_of(market)
    for number, good in enumerate(goods):
        if number >= len(buyers):
            raise BadDealing(buyer=number)
        if good is not None:
            if not comes(buyers[number], day) or not is_within(good, 0, len(left) - 1) or left[good] == 0:
                raise BadDealing(buyer=number)
            left[good] -= 1
    if len(goods) < len(buyers):
        raise BadDealing(buyer=len(goods))
    return left


def check_supporting(many, prices):
    """Refuse prices of other than so many goods, or below 0; no seller bounds them."""
    for good, price in enumerate(prices):
        if good >= many or price < 0:
            raise BadPrices(good=good)
    if len(prices) < many:
        raise BadPrices(good=len(prices))


def has_most(worths, prices, good):
    """Whether none of the goods, nor nothing, is worth more above its price than what is had."""
    above = [worth - price for worth, price in zip(worths, prices)]
    had = 0 if good is None else above[good]
    return had == max([0] + above)


def supports(market, day, goods, prices):
    """Whether these prices show that no dealing is better than this one."""
    check_day(market, day)
    left = left_by(market, day, goods)
    check_supporting(len(left), prices)
    if any([many > 0 and price > 0 for many, price in zip(left, prices)]):
        return False
    _, buyers = market
    return all([has_most(buyer[2], prices, good) for buyer, good in zip(buyers, goods) if comes(buyer, day)])
