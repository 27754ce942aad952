"""The best dealing of a day, and the prices that support it: points 7 and 8."""

import itertools

from learnprices.dealing import best, gain_of, greatest_prices, least_prices, supports
from learnprices.errors import BadCount, BadDealing, BadPrices, NoBuyer
from tests.checks import Checks
from tests.plain import comers, dealings, do_support, some_markets, worth_of

NOBODY = ((), ())
FIRST, SECOND = (20, 1, 2, 1, 0, 99), (30, 2, 5, 3, 10, 40)
# The first good's best buyer is the second one; the third comes on odd days only.
MARKET = ((FIRST, SECOND), ((1, 0, (25, 12)), (1, 0, (30, 10)), (2, 1, (50, 40))))
# Of one good there are more than buyers.
PLENTY = (((5, 3, 1, 1, 0, 9),), ((1, 0, (7,)), (1, 0, (4,))))
# Of one good there is one, for four.
SCARCE = (((5, 1, 1, 1, 0, 9),), ((1, 0, (7,)), (1, 0, (4,)), (1, 0, (9,)), (1, 0, (0,))))
SMALL = some_markets(60, 21, sellers=3, buyers=4, width=3, worth=5)
BAD_DAYS = (-1, 10 ** 12 + 1, 10 ** 5000, -10 ** 5000)
BAD_GOODS = (([2, None, None], 0), ([-1, None, None], 0), ([0, 2, None], 1), ([0, 0, None], 1), ([1, 1, 1], 2),
             ([None, None, 1], 2), ([0, 1, 0], 2), ([0, 0, 0], 1), ([0], 1), ([], 0), ([0, 1], 2), ([0, 0], 1),
             ([0, 1, None, None], 3), ([0, 1, None, 9, 9], 3), ([0, 1, None, 1], 3), ([0, 2, None, 0], 1))


def without(market, number):
    return market[0], tuple(buyer for at, buyer in enumerate(market[1]) if at != number)


def with_stock(market, good, more):
    sellers = [list(seller) for seller in market[0]]
    sellers[good][1] += more
    return tuple(tuple(seller) for seller in sellers), market[1]


def greatest(market, day):
    return max(worth_of(market, dealing) for dealing in dealings(market, day))


def best_ones(market, day):
    most = greatest(market, day)
    return [dealing for dealing in dealings(market, day) if worth_of(market, dealing) == most]


class BestTest(Checks):
    def test_ordinary_days(self):
        self.assertEqual(best(MARKET, 0), (42, [1, 0, None]))
        self.assertEqual(best(MARKET, 1), (82, [1, 0, 1]))

    def test_buyers_that_do_not_come_have_nothing(self):
        for day in range(6):
            self.assertEqual(best((((5, 5, 1, 1, 0, 9),), ((2, 1, (9,)), (3, 0, (8,)))), day),
                             [(8, [None, 0]), (9, [0, None]), (0, [None, None]), (17, [0, 0]), (0, [None, None]),
                              (9, [0, None])][day])

    def test_more_goods_than_buyers_and_fewer(self):
        self.assertEqual(best(PLENTY, 0), (11, [0, 0]))
        self.assertEqual(best(SCARCE, 0), (9, [None, None, 0, None]))
        self.assertEqual(best((((5, 2, 1, 1, 0, 9),), SCARCE[1]), 0), (16, [0, None, 0, None]))

    def test_prices_do_not_matter(self):
        for price in (0, 50, 99):
            self.assertEqual(best((((price, 1, 1, 1, 0, 99),), ((1, 0, (3,)),)), 0), (3, [0]))

    def test_what_is_best_for_one_is_not_best_for_all(self):
        sellers = ((5, 1, 1, 1, 0, 9),) * 2
        self.assertEqual(best((sellers, ((1, 0, (9, 8)), (1, 0, (9, 2)))), 0), (17, [1, 0]))
        self.assertEqual(best((sellers, ((1, 0, (9, 8)), (1, 0, (9, 8)), (1, 0, (8, 0)))), 0)[0], 17)

    def test_worths_of_nothing(self):
        total, dealing = best((((5, 1, 1, 1, 0, 9),), ((1, 0, (0,)), (1, 0, (0,)))), 0)
        self.assertEqual(total, 0)
        self.assertIn(dealing, ([None, None], [0, None], [None, 0]))

    def test_nobody_and_nothing(self):
        self.assertEqual(best(NOBODY, 0), (0, []))
        self.assertEqual(best(((), ((1, 0, ()), (2, 1, ()))), 0), (0, [None, None]))
        self.assertEqual(best(((FIRST,), ()), 7), (0, []))

    def test_the_most_of_all(self):
        sellers = ((99, 5, 9, 9, 0, 99),) * 4
        self.assertEqual(best((sellers, ((1, 0, (99,) * 4),) * 6), 0)[0], 594)

    def test_it_is_as_it_is_plainly(self):
        for market in SMALL:
            for day in range(3):
                total, dealing = best(market, day)
                self.assertEqual(total, greatest(market, day))
                self.assertIn(dealing, best_ones(market, day))

    def test_large_markets_are_as_they_are_plainly(self):
        for market in some_markets(12, 22):
            total, dealing = best(market, 0)
            self.assertIn(dealing, best_ones(market, 0))
            self.assertEqual(worth_of(market, dealing), total)

    def test_other_days_are_refused(self):
        self.assertEqual(best(MARKET, 10 ** 12), best(MARKET, 0))
        for day in BAD_DAYS:
            self.refused(BadCount, {}, best, MARKET, day)


class GainTest(Checks):
    def test_ordinary_days(self):
        self.assertEqual([gain_of(MARKET, 0, number) for number in range(3)], [12, 17, 0])
        self.assertEqual([gain_of(MARKET, 1, number) for number in range(3)], [12, 17, 40])
        self.assertEqual([gain_of(SCARCE, 0, number) for number in range(4)], [0, 0, 2, 0])
        self.assertEqual([gain_of(PLENTY, 0, number) for number in range(2)], [7, 4])

    def test_it_is_as_it_is_plainly(self):
        for market in SMALL:
            for number in range(len(market[1])):
                self.assertEqual(gain_of(market, 1, number),
                                 greatest(market, 1) - greatest(without(market, number), 1))

    def test_numbers_of_none(self):
        for number in (-1, -3, 3, 4, 10 ** 5000):
            self.refused(NoBuyer, {"number": number}, gain_of, MARKET, 0, number)
        self.refused(NoBuyer, {"number": 0}, gain_of, NOBODY, 0, 0)

    def test_days_are_refused_ahead_of_numbers(self):
        for day in BAD_DAYS:
            self.refused(BadCount, {}, gain_of, MARKET, day, 0)
            self.refused(BadCount, {}, gain_of, MARKET, day, 3)
        self.refused(NoBuyer, {"number": 3}, gain_of, MARKET, 10 ** 12, 3)


class PricesTest(Checks):
    def test_ordinary_days(self):
        self.assertEqual((least_prices(MARKET, 0), greatest_prices(MARKET, 0)), ([13, 0], [20, 0]))
        self.assertEqual((least_prices(MARKET, 1), greatest_prices(MARKET, 1)), ([13, 0], [30, 12]))
        self.assertEqual((least_prices(SCARCE, 0), greatest_prices(SCARCE, 0)), ([7], [9]))
        self.assertEqual((least_prices(PLENTY, 0), greatest_prices(PLENTY, 0)), ([0], [0]))

    def test_as_many_as_buyers(self):
        market = (((5, 2, 1, 1, 0, 9),), PLENTY[1])
        self.assertEqual((least_prices(market, 0), greatest_prices(market, 0)), ([0], [4]))

    def test_the_last_but_one_of_five(self):
        market = (((5, 5, 1, 1, 0, 9),), tuple((1, 0, (worth,)) for worth in (9, 8, 7, 6, 5, 4)))
        self.assertEqual((least_prices(market, 0), greatest_prices(market, 0)), ([4], [5]))

    def test_sellers_do_not_bound_them(self):
        market = (((5, 1, 1, 1, 5, 9),), ((1, 0, (99,)), (1, 0, (90,))))
        self.assertEqual((least_prices(market, 0), greatest_prices(market, 0)), ([90], [99]))
        self.assertEqual((least_prices(market, 0), greatest_prices((market[0], ()), 0)), ([90], [0]))

    def test_nobody_and_nothing(self):
        for prices in (least_prices, greatest_prices):
            self.assertEqual(prices(NOBODY, 0), [])
            self.assertEqual(prices(((), ((1, 0, ()),)), 0), [])
            self.assertEqual(prices(((FIRST, SECOND), ()), 0), [0, 0])
            self.assertEqual(prices(((FIRST, SECOND), ((2, 1, (50, 40)),)), 0), [0, 0])
            self.assertEqual(prices(((FIRST,), ((1, 0, (0,)),)), 0), [0])

    def test_one_more_and_one_less(self):
        for market in SMALL:
            goods = range(len(market[0]))
            sum_now = greatest(market, 1)
            least, most = least_prices(market, 1), greatest_prices(market, 1)
            self.assertEqual(least, [greatest(with_stock(market, good, 1), 1) - sum_now for good in goods])
            self.assertEqual(most, [sum_now - greatest(with_stock(market, good, -1), 1) for good in goods])
            self.assertTrue(all(one <= other for one, other in zip(least, most)))

    def test_both_support_all_best_dealings(self):
        for market in SMALL:
            for day in range(2):
                for prices in (least_prices(market, day), greatest_prices(market, day)):
                    for dealing in best_ones(market, day):
                        self.assertIs(supports(market, day, dealing, prices), True)

    def test_none_that_support_are_below_or_above(self):
        for market in some_markets(50, 23, sellers=2, buyers=4, width=3, worth=4):
            all_dealings = dealings(market, 1)
            rows = [prices for prices in itertools.product(range(7), repeat=len(market[0]))
                    if any(do_support(market, 1, dealing, prices) for dealing in all_dealings)]
            goods = range(len(market[0]))
            self.assertEqual(least_prices(market, 1), [min(prices[good] for prices in rows) for good in goods])
            self.assertEqual(greatest_prices(market, 1), [max(prices[good] for prices in rows) for good in goods])

    def test_other_days_are_refused(self):
        for prices in (least_prices, greatest_prices):
            self.assertEqual(prices(MARKET, 10 ** 12), prices(MARKET, 0))
            for day in BAD_DAYS:
                self.refused(BadCount, {}, prices, MARKET, day)


class SupportsTest(Checks):
    def test_ordinary_dealings(self):
        self.assertIs(supports(MARKET, 0, [1, 0, None], (13, 0)), True)
        self.assertIs(supports(MARKET, 0, [1, 0, None], (20, 0)), True)
        self.assertIs(supports(MARKET, 1, [1, 0, 1], (20, 5)), True)

    def test_what_is_left_costs_nothing(self):
        self.assertIs(supports(MARKET, 0, [1, 0, None], (15, 1)), False)
        self.assertIs(supports(MARKET, 1, [1, 0, 1], (15, 1)), True)
        self.assertIs(supports(((FIRST,), ()), 0, [], (1,)), False)
        self.assertIs(supports(((FIRST,), ()), 0, [], (0,)), True)

    def test_another_good_is_worth_more(self):
        self.assertIs(supports(MARKET, 0, [1, 0, None], (12, 0)), False)
        self.assertIs(supports(MARKET, 0, [1, 0, None], (21, 0)), False)
        self.assertIs(supports(MARKET, 0, [0, 1, None], (15, 0)), False)

    def test_nothing_is_worth_more(self):
        self.assertIs(supports(SCARCE, 0, [None, None, 0, None], (9,)), True)
        self.assertIs(supports(SCARCE, 0, [None, None, 0, None], (10,)), False)

    def test_a_good_is_worth_more_than_nothing(self):
        self.assertIs(supports(SCARCE, 0, [None, None, 0, None], (7,)), True)
        self.assertIs(supports(SCARCE, 0, [None, None, 0, None], (6,)), False)
        self.assertIs(supports(PLENTY, 0, [0, None], (0,)), False)

    def test_buyers_that_do_not_come_are_not_asked(self):
        self.assertIs(supports(MARKET, 0, [1, 0, None], (13, 0)), True)
        self.assertIs(supports(MARKET, 2, [1, 0, None], (13, 0)), True)
        self.assertIs(supports(MARKET, 1, [1, 0, None], (13, 0)), False)

    def test_a_good_worth_nothing_may_be_had_or_not(self):
        market = (((5, 2, 1, 1, 0, 9),), ((1, 0, (0,)), (1, 0, (3,))))
        self.assertIs(supports(market, 0, [0, 0], (0,)), True)
        self.assertIs(supports(market, 0, [None, 0], (0,)), True)
        self.assertIs(supports(market, 0, [0, 0], (1,)), False)

    def test_prices_are_bound_by_no_seller(self):
        market = (((5, 1, 1, 1, 5, 9),), ((1, 0, (99,)),))
        for price, told in ((0, True), (4, True), (99, True), (100, False), (10 ** 5000, False)):
            self.assertIs(supports(market, 0, [0], (price,)), told)

    def test_nobody_and_nothing(self):
        self.assertIs(supports(NOBODY, 0, [], ()), True)
        self.assertIs(supports(((), ((1, 0, ()),)), 0, [None], ()), True)

    def test_it_is_as_it_is_plainly(self):
        told = []
        for market in some_markets(40, 24, sellers=2, buyers=3, width=3, worth=4):
            for dealing in dealings(market, 1):
                for prices in itertools.product(range(6), repeat=len(market[0])):
                    told.append(do_support(market, 1, dealing, prices))
                    self.assertIs(supports(market, 1, dealing, prices), told[-1])
        self.assertGreater(told.count(True), 50)
        self.assertGreater(told.count(False), 500)

    def test_only_best_dealings_are_supported(self):
        for market in some_markets(25, 25, sellers=2, buyers=3, width=3, worth=4):
            most = best(market, 1)[0]
            for dealing in dealings(market, 1):
                if worth_of(market, dealing) < most:
                    for prices in itertools.product(range(6), repeat=len(market[0])):
                        self.assertIs(supports(market, 1, dealing, prices), False)


class SupportsRefusedTest(Checks):
    def test_dealings_that_are_none(self):
        for goods, buyer in BAD_GOODS:
            with self.subTest(goods=goods):
                self.refused(BadDealing, {"buyer": buyer}, supports, MARKET, 0, goods, (13, 0))
        self.refused(BadDealing, {"buyer": 0}, supports, NOBODY, 0, [None], ())
        self.refused(BadDealing, {"buyer": 0}, supports, ((), ((1, 0, ()),)), 0, [0], ())

    def test_dealings_that_are_some(self):
        for goods in ([None, None, None], [0, None, None], [None, 0, None], [1, 1, None], [0, 1, None]):
            self.assertIs(supports(MARKET, 0, goods, (13, 0)), False)
        for goods in ([None, 1, 1], [1, None, 0], [0, 1, 1]):
            self.assertIs(supports(MARKET, 1, goods, (13, 0)), False)

    def test_another_day_another_dealing(self):
        self.assertIs(supports(MARKET, 1, [1, 0, 1], (13, 0)), True)
        self.refused(BadDealing, {"buyer": 2}, supports, MARKET, 2, [1, 0, 1], (13, 0))

    def test_prices_that_can_not_be(self):
        for prices, good in (((-1, 0), 0), ((13, -1), 1), ((-1, -1), 0), ((13,), 1), ((), 0), ((13, 0, 0), 2),
                             ((13, 0, -1), 2), ((13, -1, 0), 1), ((-1,), 0), ((-10 ** 5000, 0), 0)):
            with self.subTest(prices=prices):
                self.refused(BadPrices, {"good": good}, supports, MARKET, 0, [1, 0, None], prices)
                # They are refused, too, where the dealing is none of the best.
                self.refused(BadPrices, {"good": good}, supports, MARKET, 0, [None, None, None], prices)
        self.refused(BadPrices, {"good": 0}, supports, NOBODY, 0, [], (0,))

    def test_days_ahead_of_dealings_ahead_of_prices(self):
        for goods, buyer in BAD_GOODS:
            for prices in ((-1, 0), (13,), (13, 0, 0)):
                self.refused(BadDealing, {"buyer": buyer}, supports, MARKET, 0, goods, prices)
        for day in BAD_DAYS:
            self.refused(BadCount, {}, supports, MARKET, day, [9], (-1,))
            self.refused(BadCount, {}, supports, MARKET, day, [1, 0, None], (13, 0))
        self.assertIs(supports(MARKET, 10 ** 12, [1, 0, None], (13, 0)), True)


class FormTest(Checks):
    def test_kinds(self):
        told = best(MARKET, 0)
        self.assertEqual([kind.__class__ for kind in (told, told[0], told[1])], [tuple, int, list])
        self.assertEqual([kind.__class__ for kind in (gain_of(MARKET, 0, 0), least_prices(MARKET, 0),
                                                      greatest_prices(MARKET, 0))], [int, list, list])

    def test_arguments_by_their_names(self):
        self.assertEqual(best(market=MARKET, day=0), (42, [1, 0, None]))
        self.assertEqual(gain_of(market=MARKET, day=0, number=1), 17)
        self.assertEqual(least_prices(market=MARKET, day=0), [13, 0])
        self.assertEqual(greatest_prices(market=MARKET, day=0), [20, 0])
        self.assertIs(supports(market=MARKET, day=0, goods=[1, 0, None], prices=(13, 0)), True)
        for call, names in ((best, ["market", "day"]), (gain_of, ["market", "day", "number"]),
                            (least_prices, ["market", "day"]), (greatest_prices, ["market", "day"]),
                            (supports, ["market", "day", "goods", "prices"])):
            self.named(call, names, "learnprices.dealing")
