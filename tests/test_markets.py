"""Markets, what they refuse, and a day: points 2 to 4."""

from learnprices.days import after, days, period, settles
from learnprices.dealing import best, gain_of, greatest_prices, least_prices, supports
from learnprices.errors import BadBuyer, BadCount, BadPrices, BadSeller, NoBuyer, TooMany
from learnprices.markets import day_of
from learnprices.notes import written
from learnprices.steady import pulls, stays, steady
from tests.checks import Checks
from tests.plain import LONG, many_days, one_day, some_markets

SELLER = (20, 2, 3, 1, 10, 30)
LEAST = (0, 1, 0, 0, 0, 0)
GREATEST = (99, 5, 9, 9, 99, 99)
ALL_CALLS = {
    "day_of": lambda market: day_of(market, first_prices(market), 0),
    "days": lambda market: days(market, 1),
    "after": lambda market: after(market, 1),
    "period": period,
    "settles": settles,
    "stays": lambda market: stays(market, first_prices(market)),
    "steady": steady,
    "pulls": pulls,
    "best": lambda market: best(market, 0),
    "gain_of": lambda market: gain_of(market, 0, 0),
    "least_prices": lambda market: least_prices(market, 0),
    "greatest_prices": lambda market: greatest_prices(market, 0),
    "supports": lambda market: supports(market, 0, [None] * len(market[1]), first_prices(market)),
    "written": written,
}
BAD_CALLS = {
    "day_of": lambda market: day_of(market, (-1,), -1),
    "days": lambda market: days(market, -1),
    "after": lambda market: after(market, -1),
    "stays": lambda market: stays(market, (-1,)),
    "best": lambda market: best(market, -1),
    "gain_of": lambda market: gain_of(market, -1, -1),
    "least_prices": lambda market: least_prices(market, -1),
    "greatest_prices": lambda market: greatest_prices(market, -1),
    "supports": lambda market: supports(market, -1, [-1], (-1,)),
}


def first_prices(market):
    return tuple(seller[0] if seller else 0 for seller in market[0])


class MarketChecks(Checks):
    def everywhere(self, error, number, sellers, buyers):
        for name, call in ALL_CALLS.items():
            with self.subTest(name=name, sellers=sellers, buyers=buyers):
                self.refused(error, {"number": number}, call, (sellers, buyers))

    def fine(self, sellers, buyers):
        for name, call in ALL_CALLS.items():
            with self.subTest(name=name, sellers=sellers, buyers=buyers):
                try:
                    call((sellers, buyers))
                except TooMany:
                    self.assertIn(name, ("steady", "pulls"))
                except NoBuyer:
                    self.assertEqual((name, buyers), ("gain_of", ()))


class SellersTest(MarketChecks):
    def test_none_one_and_four_can_be(self):
        for many in range(5):
            self.fine((SELLER,) * many, ())

    def test_the_least_and_the_greatest_numbers_can_be(self):
        self.fine((LEAST, GREATEST), ())
        self.fine(((0, 1, 0, 0, 0, 99), (99, 1, 0, 0, 0, 99)), ())

    def test_one_beyond_each_number_is_refused(self):
        for at, number in ((0, 9), (0, 31), (1, 0), (1, 6), (2, -1), (2, 10), (3, -1), (3, 10),
                           (4, -1), (4, 21), (5, 19), (5, 100)):
            bad = SELLER[:at] + (number,) + SELLER[at + 1:]
            self.everywhere(BadSeller, 0, (bad,), ())
            self.everywhere(BadSeller, 2, (SELLER, SELLER, bad, bad), ())

    def test_prices_are_from_low_to_high(self):
        self.everywhere(BadSeller, 0, ((5, 1, 1, 1, 6, 4),), ())
        self.everywhere(BadSeller, 0, ((5, 1, 1, 1, 6, 9),), ())
        self.everywhere(BadSeller, 0, ((5, 1, 1, 1, 1, 4),), ())
        self.everywhere(BadSeller, 0, ((99, 1, 1, 1, 1, 100),), ())
        self.everywhere(BadSeller, 0, ((0, 1, 1, 1, -1, 4),), ())

    def test_tuples_of_other_counts_and_things_are_refused(self):
        for bad in ((), SELLER[:5], SELLER + (1,), (1,), ("20", 2, 3, 1, 10, 30), (20, 2, 3, 1, None, 30),
                    (20, True, 3, 1, 10, 30), ((20,), 2, 3, 1, 10, 30), (20, 2, 3, 1, 10, (30,))):
            self.everywhere(BadSeller, 1, (SELLER, bad), ())

    def test_a_fifth_is_refused_behind_the_four(self):
        self.everywhere(BadSeller, 4, (SELLER,) * 5, ())
        self.everywhere(BadSeller, 4, (SELLER,) * 7, ())
        bad = (20, 0, 3, 1, 10, 30)
        self.everywhere(BadSeller, 4, (SELLER,) * 4 + (bad,), ())
        self.everywhere(BadSeller, 3, (SELLER,) * 3 + (bad, SELLER), ())


class BuyersTest(MarketChecks):
    def test_none_and_six_can_be(self):
        self.fine((SELLER,), ())
        self.fine((SELLER,), ((1, 0, (20,)),) * 6)
        self.fine((), ((1, 0, ()),) * 6)

    def test_the_least_and_the_greatest_numbers_can_be(self):
        self.fine((SELLER,) * 2, ((1, 0, (0, 99)), (2, 1, (99, 0)), (3, 2, (0, 0)), (4, 3, (99, 99)), (4, 0, (5, 5))))

    def test_one_beyond_each_number_is_refused(self):
        for bad in ((0, 0, (20,)), (5, 0, (20,)), (1, 1, (20,)), (2, 2, (20,)), (3, 3, (20,)), (4, 4, (20,)),
                    (4, -1, (20,)), (1, 0, (-1,)), (1, 0, (100,)), (-1, -2, (20,))):
            self.everywhere(BadBuyer, 0, (SELLER,), (bad,))
            self.everywhere(BadBuyer, 1, (SELLER,), ((1, 0, (20,)), bad, bad))

    def test_worths_are_as_many_as_goods(self):
        for bad in ((), (20,), (20, 20, 20), (20, 100), (20, -1), (20, "20"), (20, False), (20, (20,))):
            self.everywhere(BadBuyer, 1, (SELLER,) * 2, ((1, 0, (20, 20)), (1, 0, bad)))
        self.everywhere(BadBuyer, 0, (), ((1, 0, (20,)),))

    def test_tuples_of_other_counts_and_things_are_refused(self):
        for bad in ((), (1,), (1, 0), (1, 0, (20,), 1), (1, 0, 20), ("1", 0, (20,)), (1, None, (20,)),
                    (True, 0, (20,)), (1, False, (20,)), ((1,), 0, (20,))):
            self.everywhere(BadBuyer, 2, (SELLER,), ((1, 0, (20,)), (4, 3, (99,)), bad))

    def test_a_seventh_is_refused_behind_the_six(self):
        good, bad = (1, 0, (20,)), (1, 0, (100,))
        self.everywhere(BadBuyer, 6, (SELLER,), (good,) * 7)
        self.everywhere(BadBuyer, 6, (SELLER,), (good,) * 9)
        self.everywhere(BadBuyer, 6, (SELLER,), (good,) * 6 + (bad,))
        self.everywhere(BadBuyer, 5, (SELLER,), (good,) * 5 + (bad, good))

    def test_all_sellers_are_refused_ahead_of_buyers(self):
        self.everywhere(BadSeller, 3, (SELLER,) * 3 + (LEAST[:5],), ((0, 0, ()),))
        self.everywhere(BadSeller, 4, (SELLER,) * 5, ((0, 0, ()),) * 7)

    def test_the_market_is_refused_ahead_of_all_else(self):
        for name, call in BAD_CALLS.items():
            with self.subTest(name=name):
                self.refused(BadSeller, {"number": 0}, call, (((20, 0, 3, 1, 10, 30),), ()))
                self.refused(BadBuyer, {"number": 0}, call, ((SELLER,), ((1, 1, (20,)),)))
        late = LONG[1] + ((0, 0, (0, 0, 0, 0)),)
        for name in ("after", "period", "settles", "steady", "pulls"):
            with self.subTest(name=name):
                self.refused(TooMany, {}, ALL_CALLS[name], LONG)
                self.refused(BadBuyer, {"number": 4}, ALL_CALLS[name], (LONG[0], late))


class DayTest(Checks):
    def test_an_ordinary_day(self):
        market = (((20, 1, 2, 1, 0, 99), (30, 2, 5, 3, 10, 40)),
                  ((1, 0, (25, 32)), (1, 0, (25, 32)), (2, 1, (99, 99))))
        self.assertEqual(day_of(market, (20, 30), 0), ([0, 1, None], (22, 30)))
        self.assertEqual(day_of(market, (20, 30), 1), ([0, 1, 1], (22, 35)))
        self.assertEqual(day_of(market, (26, 33), 0), ([None, None, None], (25, 30)))
        self.assertEqual(day_of(market, (26, 33), 1), ([None, None, 0], (28, 30)))

    def test_nobody_and_nothing(self):
        self.assertEqual(day_of(((), ()), (), 0), ([], ()))
        self.assertEqual(day_of(((), ((1, 0, ()), (2, 0, ()))), (), 0), ([None, None], ()))
        self.assertEqual(day_of(((SELLER,), ()), (25,), 7), ([], (24,)))

    def test_buyers_come_on_their_days(self):
        seller = (9, 5, 0, 0, 9, 9)
        for every in range(1, 5):
            for first in range(every):
                market = ((seller,), ((every, first, (9,)),))
                came = [day for day in range(25) if day_of(market, (9,), day)[0] == [0]]
                self.assertEqual(came, list(range(first, 25, every)))

    def test_what_costs_as_much_as_it_is_worth_is_bought(self):
        market = (((10, 1, 2, 1, 0, 99),), ((1, 0, (10,)),))
        self.assertEqual(day_of(market, (10,), 0), ([0], (12,)))
        self.assertEqual(day_of(market, (11,), 0), ([None], (10,)))
        self.assertEqual(day_of((market[0], ((1, 0, (0,)),)), (0,), 0), ([0], (2,)))

    def test_the_one_worth_most_above_its_price(self):
        sellers = ((0, 5, 1, 1, 0, 99),) * 3
        buyers = ((1, 0, (50, 60, 40)),)
        self.assertEqual(day_of((sellers, buyers), (40, 51, 29), 0)[0], [2])
        self.assertEqual(day_of((sellers, buyers), (40, 49, 30), 0)[0], [1])
        self.assertEqual(day_of((sellers, buyers), (39, 50, 30), 0)[0], [0])

    def test_of_several_the_cheapest_of_these_the_first(self):
        sellers = ((0, 5, 1, 1, 0, 99),) * 3
        self.assertEqual(day_of((sellers, ((1, 0, (30, 20, 25)),)), (20, 10, 15), 0)[0], [1])
        self.assertEqual(day_of((sellers, ((1, 0, (30, 20, 20)),)), (20, 10, 10), 0)[0], [1])
        self.assertEqual(day_of((sellers, ((1, 0, (20, 20, 30)),)), (10, 10, 20), 0)[0], [0])
        self.assertEqual(day_of((sellers, ((1, 0, (20, 20, 20)),)), (10, 10, 10), 0)[0], [0])

    def test_in_turn_while_some_are_left(self):
        sellers = ((10, 2, 3, 1, 0, 99), (10, 1, 4, 2, 0, 99))
        buyers = ((1, 0, (40, 20)),) * 4
        self.assertEqual(day_of((sellers, buyers), (10, 10), 0), ([0, 0, 1, None], (13, 14)))
        self.assertEqual(day_of((sellers, buyers[:2]), (10, 10), 0), ([0, 0], (13, 8)))
        self.assertEqual(day_of((sellers, buyers[:1]), (10, 10), 0), ([0], (10, 8)))

    def test_the_first_buyer_goes_first(self):
        market = (((10, 1, 3, 1, 0, 99), (10, 1, 4, 2, 0, 99)), ((1, 0, (12, 11)), (1, 0, (99, 11)), (1, 0, (99, 9))))
        self.assertEqual(day_of(market, (10, 10), 0)[0], [0, 1, None])

    def test_prices_go_to_high_and_low_at_the_most(self):
        buyer = (1, 0, (99,))
        for price, behind in ((25, 29), (26, 30), (27, 30), (30, 30)):
            self.assertEqual(day_of((((20, 1, 4, 5, 10, 30),), (buyer,)), (price,), 0), ([0], (behind,)))
        for price, behind in ((16, 11), (15, 10), (14, 10), (10, 10)):
            self.assertEqual(day_of((((20, 1, 4, 5, 10, 30),), ()), (price,), 0), ([], (behind,)))

    def test_no_step_no_change(self):
        self.assertEqual(day_of((((20, 1, 0, 0, 10, 30),), ((1, 0, (99,)),)), (20,), 0), ([0], (20,)))
        self.assertEqual(day_of((((20, 1, 0, 0, 10, 30),), ()), (20,), 0), ([], (20,)))

    def test_the_days_are_as_they_are_done_plainly(self):
        for market in some_markets(60, 4):
            for day, (prices, _) in enumerate(many_days(market, 15)):
                self.assertEqual(day_of(market, prices, day), one_day(market, prices, day))

    def test_kinds_and_names(self):
        market = ((SELLER,), ((1, 0, (20,)),))
        bought, behind = told = day_of(market=market, prices=(20,), day=3)
        self.assertEqual((told.__class__, bought.__class__, behind.__class__), (tuple, list, tuple))
        self.named(day_of, ["market", "prices", "day"], "learnprices.markets")


class DayRefusedTest(Checks):
    market = ((SELLER, (50, 1, 1, 1, 50, 60)), ((1, 0, (20, 20)),))

    def test_prices_from_low_to_high(self):
        for prices in ((10, 50), (30, 60)):
            self.assertEqual(day_of(self.market, prices, 0)[0].__class__, list)
        for prices, good in (((9, 50), 0), ((31, 50), 0), ((10, 49), 1), ((10, 61), 1), ((9, 49), 0), ((-1, 50), 0)):
            self.refused(BadPrices, {"good": good}, day_of, self.market, prices, 0)

    def test_more_prices_and_fewer(self):
        for prices, good in (((20, 50, 20), 2), ((20, 50, -5, 20), 2), ((20,), 1), ((), 0), ((9,), 0), ((20, 49, 1), 1)):
            self.refused(BadPrices, {"good": good}, day_of, self.market, prices, 0)
        self.refused(BadPrices, {"good": 0}, day_of, ((), ()), (0,), 0)
        self.refused(BadPrices, {"good": 4}, day_of, ((SELLER,) * 4, ()), (20,) * 5, 0)

    def test_days_from_nothing_to_the_last(self):
        self.assertEqual(day_of(self.market, (20, 50), 10 ** 12), ([0], (20, 50)))
        for day in (-1, 10 ** 12 + 1, 10 ** 5000, -10 ** 5000):
            self.refused(BadCount, {}, day_of, self.market, (20, 50), day)

    def test_the_last_day_has_its_buyers(self):
        market = ((SELLER,), ((3, 0, (20,)), (3, 1, (20,)), (4, 0, (20,))))
        self.assertEqual(day_of(market, (20,), 10 ** 12)[0], [None, 0, 0])

    def test_prices_are_refused_ahead_of_days(self):
        self.refused(BadPrices, {"good": 1}, day_of, self.market, (20,), -1)
        self.refused(BadPrices, {"good": 0}, day_of, self.market, (9, 50), 10 ** 12 + 1)
