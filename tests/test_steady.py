"""Prices that stay, and how many come to them: point 6."""

from learnprices.errors import BadPrices, TooMany
from learnprices.steady import pulls, stays, steady
from tests.checks import Checks
from tests.plain import LONG, ROUND, come_to, had_prices, one_day, some_markets

NOBODY = ((), ())
FALLING = (((5, 1, 3, 2, 0, 9),), ())
STILL = (((5, 1, 0, 0, 0, 9),), ((1, 0, (9,)), (2, 1, (4,))))
# Both of two are sold up to a price of 5, one up to a price of 9, none above.
BETWEEN = (((5, 2, 2, 1, 0, 12),), ((1, 0, (9,)), (1, 0, (5,))))
# It is sold up to a price of 5, and doesn't fall.
RISING = (((5, 1, 1, 0, 0, 9),), ((1, 0, (5,)),))
# Only 4 stays; by threes the others come to it or go past it.
PAST = (((5, 2, 3, 3, 0, 9),), ((1, 0, (4,)), (1, 0, (3,))))
# At (3, 11) the buyer of days 0, 3, .. takes the second good; had it come later, at (2, 11), it would take the first.
TIMED = (((3, 2, 8, 9, 2, 3), (12, 1, 4, 0, 10, 12)), ((3, 1, (3, 10)), (3, 0, (3, 12))))


def plain_steady(market):
    return [prices for prices in had_prices(market)
            if all(one_day(market, prices, day)[1] == prices for day in range(12))]


def plain_pulls(market):
    ends = [come_to(market, prices) for prices in had_prices(market)]
    rows = sorted({end for end in ends if end is not None})
    return [(end, ends.count(end)) for end in rows], ends.count(None)


def wide(*many):
    """A market without buyers, in which the goods can have so many prices, and fall by nine."""
    return tuple((0, 1, 1, 9, 0, one - 1) for one in many), ()


class StaysTest(Checks):
    def test_ordinary_prices(self):
        self.assertIs(stays(FALLING, (0,)), True)
        self.assertIs(stays(FALLING, (1,)), False)
        self.assertEqual([price for price in range(13) if stays(BETWEEN, (price,))], [6, 7, 8, 9])
        self.assertEqual([price for price in range(10) if stays(RISING, (price,))], [6, 7, 8, 9])

    def test_every_day_counts(self):
        # One of two is sold on even days, none on odd ones; or both on even days, one on odd ones.
        self.assertFalse(stays((((5, 2, 1, 1, 0, 9),), ((2, 0, (9,)),)), (5,)))
        self.assertTrue(stays((((5, 2, 1, 0, 0, 9),), ((2, 0, (9,)),)), (5,)))
        self.assertFalse(stays((((5, 2, 1, 1, 0, 9),), ((1, 0, (9,)), (2, 0, (9,)))), (5,)))
        self.assertTrue(stays((((5, 2, 0, 1, 0, 9),), ((1, 0, (9,)), (2, 0, (9,)))), (5,)))

    def test_a_day_of_a_turn_of_twelve_counts(self):
        # Both come on one day of twelve only.
        for day in range(12):
            buyers = ((3, day % 3, (9,)), (4, day % 4, (9,)))
            self.assertFalse(stays((((5, 2, 1, 0, 0, 9),), buyers), (5,)))
            self.assertTrue(stays((((5, 3, 1, 0, 0, 9),), buyers), (5,)))

    def test_prices_that_come_back_do_not_stay(self):
        # Up by one on even days, down by one on odd ones.
        market = (((5, 1, 1, 1, 0, 9),), ((2, 0, (9,)),))
        self.assertFalse(stays(market, (5,)))
        self.assertFalse(stays(market, (6,)))

    def test_bounds_hold_prices(self):
        rising = (((50, 1, 9, 9, 0, 99),), ((1, 0, (99,)),))
        self.assertEqual([stays(rising, (price,)) for price in (0, 1, 98, 99)], [False, False, False, True])
        falling = (((50, 1, 9, 9, 0, 99),), ((1, 0, (0,)),))
        self.assertEqual([stays(falling, (price,)) for price in (0, 1, 98, 99)], [False, False, False, False])
        self.assertTrue(stays((((0, 1, 9, 9, 0, 99),), ()), (0,)))
        self.assertTrue(stays((((7, 1, 9, 9, 7, 7),), ()), (7,)))

    def test_all_goods_count(self):
        sellers = ((5, 1, 0, 0, 0, 9), (5, 1, 1, 1, 0, 9))
        self.assertTrue(stays((sellers, ()), (5, 0)))
        self.assertFalse(stays((sellers, ()), (5, 1)))
        self.assertFalse(stays((sellers[::-1], ()), (1, 5)))

    def test_nobody_and_nothing(self):
        self.assertIs(stays(NOBODY, ()), True)
        self.assertIs(stays(((), ((2, 0, ()),)), ()), True)

    def test_prices_that_can_not_be(self):
        market = (((20, 2, 3, 1, 10, 30), (50, 1, 1, 1, 50, 60)), ((1, 0, (20, 20)),))
        for prices, good in (((9, 50), 0), ((31, 50), 0), ((10, 49), 1), ((10, 61), 1), ((9, 49), 0), ((20,), 1),
                             ((), 0), ((20, 50, 20), 2), ((20, 61, 20), 1), ((9,), 0)):
            self.refused(BadPrices, {"good": good}, stays, market, prices)
        self.refused(BadPrices, {"good": 0}, stays, NOBODY, (0,))

    def test_it_is_told_of_any_number_of_prices(self):
        self.assertIs(stays(LONG, (99, 99, 99, 99)), False)
        self.assertIs(stays(wide(100, 100, 100, 100), (0, 0, 0, 0)), True)


class SteadyTest(Checks):
    def test_ordinary_markets(self):
        self.assertEqual(steady(FALLING), [(0,)])
        self.assertEqual(steady(BETWEEN), [(6,), (7,), (8,), (9,)])
        self.assertEqual(steady(RISING), [(6,), (7,), (8,), (9,)])
        self.assertEqual(steady(PAST), [(4,)])
        self.assertEqual(steady(TIMED), [(2, 11), (2, 12)])

    def test_none_and_all(self):
        self.assertEqual(steady(ROUND), [])
        self.assertEqual(steady(STILL), [(price,) for price in range(10)])
        two = ((5, 1, 0, 0, 4, 6), (98, 2, 0, 0, 98, 99))
        self.assertEqual(steady((two, ((1, 0, (99, 99)),))), [(4, 98), (4, 99), (5, 98), (5, 99), (6, 98), (6, 99)])

    def test_nobody_and_nothing(self):
        self.assertEqual(steady(NOBODY), [()])
        self.assertEqual(steady(((), ((1, 0, ()),))), [()])

    def test_the_least_and_the_greatest_price(self):
        self.assertEqual(steady((((50, 1, 1, 1, 0, 99),), ((1, 0, (99,)),))), [(99,)])
        self.assertEqual(steady((((50, 1, 1, 1, 0, 99),), ())), [(0,)])
        self.assertEqual(steady((((99, 1, 1, 1, 99, 99),), ())), [(99,)])

    def test_they_are_as_they_are_plainly(self):
        found = 0
        for market in some_markets(80, 11, sellers=3, width=4, worth=18):
            expected = plain_steady(market)
            found += len(expected) > 1
            self.assertEqual(steady(market), expected)
        self.assertGreater(found, 10)


class PullsTest(Checks):
    def test_ordinary_markets(self):
        self.assertEqual(pulls(FALLING), ([((0,), 10)], 0))
        self.assertEqual(pulls(BETWEEN), ([((6,), 4), ((7,), 4), ((8,), 1), ((9,), 4)], 0))
        self.assertEqual(pulls(RISING), ([((6,), 7), ((7,), 1), ((8,), 1), ((9,), 1)], 0))

    def test_none_and_all(self):
        self.assertEqual(pulls(ROUND), ([], 100))
        self.assertEqual(pulls(STILL), ([((price,), 1) for price in range(10)], 0))

    def test_some_never_come_to_any(self):
        # 1, 4 and 7 come to 4, the others go round.
        self.assertEqual(pulls(PAST), ([((4,), 3)], 7))

    def test_nobody_and_nothing(self):
        self.assertEqual(pulls(NOBODY), ([((), 1)], 0))
        self.assertEqual(pulls(((), ((4, 3, ()),))), ([((), 1)], 0))

    def test_they_are_had_ahead_of_day_nothing(self):
        self.assertEqual(pulls(TIMED), ([((2, 11), 1), ((2, 12), 5)], 0))
        later = (TIMED[0], ((3, 0, (3, 10)), (3, 2, (3, 12))))
        self.assertEqual(pulls(later), ([((2, 11), 2), ((2, 12), 4)], 0))

    def test_first_prices_do_not_matter(self):
        for price in range(10):
            self.assertEqual(pulls((((price,) + PAST[0][0][1:],), PAST[1])), ([((4,), 3)], 7))

    def test_they_are_as_they_are_plainly(self):
        mixed = 0
        for market in some_markets(400, 12, sellers=2, width=9, worth=30) + some_markets(60, 13, sellers=3, width=4):
            expected = plain_pulls(market)
            mixed += expected[1] > 0 and expected[0] != []
            self.assertEqual(pulls(market), expected)
        self.assertGreater(mixed, 2)


class TooManyTest(Checks):
    def test_three_thousand_are_told(self):
        for many in ((100, 30), (10, 10, 30), (2, 3, 5, 100), (30, 1, 100, 1)):
            lowest = (0,) * len(many)
            self.assertEqual(steady(wide(*many)), [lowest])
            self.assertEqual(pulls(wide(*many)), ([(lowest, 3000)], 0))

    def test_more_are_refused(self):
        for many in ((2, 19, 79), (79, 19, 2), (3, 7, 11, 13), (100, 31), (1, 100, 1, 31), (100, 100, 100, 100)):
            self.refused(TooMany, {}, steady, wide(*many))
            self.refused(TooMany, {}, pulls, wide(*many))

    def test_they_count_from_low_to_high(self):
        sellers = ((75, 1, 1, 9, 70, 99), (99, 1, 1, 9, 90, 99), (40, 1, 1, 9, 40, 49))
        self.assertEqual(steady((sellers, ())), [(70, 90, 40)])
        self.assertEqual(pulls((sellers, ())), ([((70, 90, 40), 3000)], 0))
        sellers = ((98, 1, 1, 9, 98, 99), (99, 1, 1, 9, 81, 99), (50, 1, 1, 9, 21, 99))
        self.refused(TooMany, {}, steady, (sellers, ()))
        self.refused(TooMany, {}, pulls, (sellers, ()))

    def test_those_that_can_be_count_not_those_that_come(self):
        sellers = ((0, 1, 0, 0, 0, 99), (0, 1, 0, 0, 0, 99))
        self.refused(TooMany, {}, steady, (sellers, ()))
        self.refused(TooMany, {}, pulls, (sellers, ()))


class FormTest(Checks):
    def test_kinds(self):
        rows, never = told = pulls(RISING)
        self.assertEqual([kind.__class__ for kind in (told, rows, rows[0], rows[0][0], rows[0][1], never)],
                         [tuple, list, tuple, tuple, int, int])
        self.assertEqual([steady(RISING).__class__, steady(RISING)[0].__class__], [list, tuple])

    def test_arguments_by_their_names(self):
        self.assertIs(stays(market=RISING, prices=(6,)), True)
        self.assertEqual(steady(market=FALLING), [(0,)])
        self.assertEqual(pulls(market=FALLING), ([((0,), 10)], 0))
        for call, names in ((stays, ["market", "prices"]), (steady, ["market"]), (pulls, ["market"])):
            self.named(call, names, "learnprices.steady")
