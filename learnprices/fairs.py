"""A fair that goes on deed by deed."""

from learnprices.errors import BadBuyer, BadCount, BadDeed, BadPrices, BadSeller, NoBuyer, PriceError
from learnprices.markets import MOST_BUYERS, MOST_SELLERS, can_buy, can_sell, day_done, is_within


class Fair:
    """A fair; at first it is without sellers and buyers, at day 0."""

    def __init__(self):
        self.today = 0
        self.sellers = []
        self.prices = []
        self.taken = []
        # The buyers that are there, by their numbers; a number is never given twice.
        self.buyers = {}
        self.came = 0
        self.done = []

    def begin(self, seller):
        """Let a seller begin, and tell its good's number."""
        good = len(self.sellers)
        if not can_sell(seller):
            raise BadSeller(number=good)
        if good == MOST_SELLERS:
            raise BadCount(f"there are {MOST_SELLERS} sellers already")
        self.sellers.append(seller)
        self.prices.append(seller[0])
        self.taken.append(0)
        self.buyers = {number: (every, first, worths + (0,))
                       for number, (every, first, worths) in self.buyers.items()}
        self.done.append(("begin", seller))
        return good

    def come(self, buyer):
        """Let a buyer come, and tell its number."""
        number = self.came
        if not can_buy(buyer, len(self.sellers)):
            raise BadBuyer(number=number)
        if len(self.buyers) == MOST_BUYERS:
            raise BadCount(f"there are {MOST_BUYERS} buyers already")
        self.buyers[number] = buyer
        self.came += 1
        self.done.append(("come", buyer))
        return number

    def leave(self, number):
        """Let a buyer go."""
        if number not in self.buyers:
            raise NoBuyer(number=number)
        del self.buyers[number]
        self.done.append(("leave", number))

    def mark(self, good, price):
        """Give a good another price."""
        if not is_within(good, 0, len(self.sellers) - 1):
            raise BadPrices(good=good)
        low, high = self.sellers[good][4:]
        if not is_within(price, low, high):
            raise BadPrices(good=good)
        self.prices[good] = price
        self.done.append(("mark", good, price))

    def day(self):
        """Do a day, and tell what each buyer buys that buys."""
        bought, behind = day_done((self.sellers, list(self.buyers.values())), self.prices, self.today)
        told = {number: good for number, good in zip(self.buyers, bought) if good is not None}
        for good in told.values():
            self.taken[good] += self.prices[good]
        self.prices = list(behind)
        self.today += 1
        self.done.append(("day",))
        return told

    def prices_now(self):
        """Tell the prices."""
        return tuple(self.prices)

    def market(self):
        """Tell the market as it is, with today as its day 0."""
        sellers = [(price,) + seller[1:] for price, seller in zip(self.prices, self.sellers)]
        buyers = [(every, (first - self.today) % every, worths) for every, first, worths in self.buyers.values()]
        return tuple(sellers), tuple(buyers)

    def takings(self):
        """Tell how much each seller took by now."""
        return list(self.taken)

    def deeds(self):
        """Tell all that was done, in turn."""
        return list(self.done)


def does(fair, deed):
    """Whether a fair does this; not if it is no deed, or is refused."""
    try:
        match deed:
            case ["begin", seller]:
                fair.begin(seller)
            case ["come", buyer]:
                fair.come(buyer)
            case ["leave", number]:
                fair.leave(number)
            case ["mark", good, price]:
                fair.mark(good, price)
            case ["day"]:
                fair.day()
            case _:
                return False
    except PriceError:
        return False
    return True


def again(deeds):
    """Tell a fair that did all these deeds."""
    fair = Fair()
    for number, deed in enumerate(deeds):
        if not does(fair, deed):
            raise BadDeed(number=number)
    return fair
