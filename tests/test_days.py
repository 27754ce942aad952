"""Many days, near and far: point 5."""

from learnprices.days import after, days, period, settles
from learnprices.errors import BadCount, TooMany
from tests.checks import Checks
from tests.plain import (DAYS_5000, DAYS_5001, LATE, LONG, ROUND, comers, many_days, some_markets, sums, walked)

NOBODY = ((), ())
FALLING = (((5, 1, 3, 2, 0, 9),), ())
STILL = (((5, 1, 0, 0, 0, 9),), ((1, 0, (9,)),))
# It falls every other day, as on the days between one of two is sold.
SLOW = (((10, 2, 0, 1, 8, 99),), ((2, 0, (99,)),))


def plain_period(market):
    """The first and the length of the round, by what the document says of them; for rounds of 150 days and less."""
    told = many_days(market, 600)
    came = [comers(market, day) for day in range(600)]
    for long in range(1, 150):
        first = 600 - long
        while first > 0 and told[first - 1][0] == told[first - 1 + long][0] and came[first - 1] == came[first - 1 + long]:
            first -= 1
        if first < 200:
            return first, long
    return None


def plain_settles(market):
    """The first day from which prices don't change, and these, within 600 days."""
    told = many_days(market, 600)
    first = 599
    while first > 0 and told[first - 1][0] == told[599][0]:
        first -= 1
    return (first, told[first][0]) if first < 500 else None


class DaysTest(Checks):
    def test_ordinary_days(self):
        told = [((20,), [0]), ((22,), [None]), ((21,), [0]), ((23,), [None]), ((22,), [0])]
        self.assertEqual(days(ROUND, 5), told)
        self.assertEqual(days(FALLING, 5), [((5,), []), ((3,), []), ((1,), []), ((0,), []), ((0,), [])])

    def test_none_one_and_the_most(self):
        self.assertEqual(days(ROUND, 0), [])
        self.assertEqual(days(ROUND, 1), [((20,), [0])])
        self.assertEqual(days(ROUND, 500), many_days(ROUND, 500))
        self.assertEqual(days(NOBODY, 2), [((), []), ((), [])])

    def test_other_counts_are_refused(self):
        for many in (-1, 501, 10 ** 5000):
            self.refused(BadCount, {}, days, ROUND, many)

    def test_the_days_are_as_they_are_done_plainly(self):
        for market in some_markets(60, 5):
            self.assertEqual(days(market, 40), many_days(market, 40))

    def test_they_are_told_where_too_many_are_refused(self):
        self.assertEqual(days(LONG, 500), many_days(LONG, 500))


class AfterTest(Checks):
    def test_ordinary_days(self):
        self.assertEqual(after(ROUND, 0), ((20,), [(0, 0)]))
        self.assertEqual(after(ROUND, 1), ((22,), [(1, 20)]))
        self.assertEqual(after(ROUND, 2), ((21,), [(1, 20)]))
        self.assertEqual(after(ROUND, 5), ((24,), [(3, 63)]))

    def test_nobody_and_nothing(self):
        self.assertEqual(after(NOBODY, 10 ** 12), ((), []))
        self.assertEqual(after(FALLING, 10 ** 12), ((0,), [(0, 0)]))

    def test_far_days(self):
        # From day 7 on, two are sold in each six days, for 24 and 25 together.
        self.assertEqual(period(ROUND), (7, 6))
        sold, taken = sums(ROUND, many_days(ROUND, 7))[0]
        self.assertEqual(sums(ROUND, many_days(ROUND, 13)), [(sold + 2, taken + 49)])
        rounds, rest = divmod(10 ** 12 - 7, 6)
        self.assertEqual(rest, 3)
        in_rest = sums(ROUND, many_days(ROUND, 10))[0]
        self.assertEqual(after(ROUND, 10 ** 12),
                         (many_days(ROUND, 11)[10][0], [(in_rest[0] + 2 * rounds, in_rest[1] + 49 * rounds)]))
        self.assertEqual(after(STILL, 10 ** 12), ((5,), [(10 ** 12, 5 * 10 ** 12)]))
        self.assertEqual(after(SLOW, 10 ** 12), ((8,), [(5 * 10 ** 11, 4 * 10 ** 12 + 3)]))

    def test_other_counts_are_refused(self):
        for many in (-1, 10 ** 12 + 1, 10 ** 5000):
            self.refused(BadCount, {}, after, ROUND, many)

    def test_the_sums_are_as_they_are_plainly(self):
        for market in some_markets(40, 6):
            told = many_days(market, 201)
            for many in (0, 1, 2, 11, 12, 13, 30, 77, 144, 200):
                self.assertEqual(after(market, many), (told[many][0], sums(market, told[:many])))

    def test_the_last_day_of_long_walks(self):
        for market in (DAYS_5000, LATE):
            told = many_days(market, 5302)
            for many in (4864, 4865, 4866, 4999, 5000, 5001, 5300):
                self.assertEqual(after(market, many), (told[many][0], sums(market, told[:many])))


class PeriodTest(Checks):
    def test_ordinary_rounds(self):
        self.assertEqual(period(ROUND), (7, 6))
        self.assertEqual(period(FALLING), (3, 1))
        self.assertEqual(period(STILL), (0, 1))
        self.assertEqual(period(SLOW), (4, 2))

    def test_the_same_buyers_come_though_they_buy_nothing(self):
        self.assertEqual(period(NOBODY), (0, 1))
        for every in range(1, 5):
            self.assertEqual(period(((), ((every, every - 1, ()),))), (0, every))
            self.assertEqual(period((((5, 1, 3, 2, 1, 9),), ((every, 0, (0,)),))), (2, every))
        self.assertEqual(period(((), ((2, 0, ()), (3, 1, ())))), (0, 6))
        self.assertEqual(period(((), ((3, 0, ()), (4, 1, ())))), (0, 12))
        self.assertEqual(period(((), ((2, 0, ()), (2, 1, ())))), (0, 2))

    def test_rounds_that_twelve_does_not_divide(self):
        self.assertEqual(period((((50, 1, 9, 8, 1, 99),), ((1, 0, (50,)),))), (0, 17))
        self.assertEqual(period((((50, 1, 2, 3, 1, 99),), ((1, 0, (50,)),))), (0, 5))
        self.assertEqual(period((((50, 1, 2, 3, 1, 99),), ((1, 0, (50,)), (2, 0, (0,))))), (0, 10))

    def test_rounds_are_as_they_are_plainly(self):
        compared = 0
        for market in some_markets(150, 7):
            expected = plain_period(market)
            if expected is not None:
                compared += 1
                self.assertEqual(period(market), expected)
        self.assertGreater(compared, 100)

    def test_rounds_that_come_late_and_are_long(self):
        self.assertEqual(period(LATE), (4865, 60))
        self.assertEqual(period(DAYS_5000), (104, 4896))


class SettlesTest(Checks):
    def test_ordinary_markets(self):
        self.assertEqual(settles(FALLING), (3, (0,)))
        self.assertEqual(settles(STILL), (0, (5,)))
        self.assertEqual(settles(SLOW), (4, (8,)))
        self.assertEqual(settles(NOBODY), (0, ()))

    def test_prices_settle_at_high(self):
        self.assertEqual(settles((((5, 1, 3, 2, 0, 12),), ((1, 0, (99,)),))), (3, (12,)))

    def test_none_settles_that_always_changes_again(self):
        self.assertIsNone(settles(ROUND))
        self.assertIsNone(settles(LATE))
        self.assertIsNone(settles(DAYS_5000))
        # The second good goes on, the first one does not.
        self.assertIsNone(settles((((5, 1, 0, 0, 0, 9), (5, 1, 1, 1, 0, 9)), ((2, 0, (0, 9)),))))

    def test_they_are_as_they_are_plainly(self):
        settled = 0
        for market in some_markets(150, 8):
            expected = plain_settles(market)
            settled += expected is not None
            self.assertEqual(settles(market), expected)
        self.assertGreater(settled, 20)
        self.assertLess(settled, 130)


class TooManyTest(Checks):
    def test_the_markets_are_what_they_are_taken_for(self):
        self.assertEqual(walked(DAYS_5000), (5000, 104))
        self.assertEqual(walked(DAYS_5001), (5001, 105))
        self.assertIsNone(walked(LONG))

    def test_five_thousand_days_are_told(self):
        self.assertEqual(after(DAYS_5000, 0), ((59, 63, 25, 62), [(0, 0)] * 4))
        self.assertEqual(period(DAYS_5000), (104, 4896))
        self.assertIsNone(settles(DAYS_5000))

    def test_more_are_refused(self):
        for market in (DAYS_5001, LONG):
            self.refused(TooMany, {}, period, market)
            self.refused(TooMany, {}, settles, market)
            for many in (0, 1, 5000, 10 ** 12):
                self.refused(TooMany, {}, after, market, many)

    def test_twelve_divides_though_no_buyer_needs_it(self):
        # Rounds of 17, 13 and 11 days make one of 2,431 days, but twelve must divide it, too.
        market = (tuple(LONG[0][:3]), tuple((1, 0, worths[:3]) for _, _, worths in LONG[1][:3]))
        self.refused(TooMany, {}, period, market)
        two = (tuple(LONG[0][:2]), tuple((1, 0, worths[:2]) for _, _, worths in LONG[1][:2]))
        self.assertEqual(period(two), (0, 221))

    def test_counts_are_refused_ahead_of_it(self):
        for many in (-1, 10 ** 12 + 1):
            self.refused(BadCount, {}, after, LONG, many)


class FormTest(Checks):
    def test_kinds(self):
        told = days(ROUND, 2)
        self.assertEqual([told.__class__, told[0].__class__, told[0][0].__class__, told[0][1].__class__],
                         [list, tuple, tuple, list])
        prices, rows = both = after(ROUND, 2)
        self.assertEqual([both.__class__, prices.__class__, rows.__class__, rows[0].__class__],
                         [tuple, tuple, list, tuple])
        self.assertEqual([period(ROUND).__class__, settles(SLOW).__class__, settles(SLOW)[1].__class__], [tuple] * 3)

    def test_arguments_by_their_names(self):
        self.assertEqual(days(market=ROUND, many=2), days(ROUND, 2))
        self.assertEqual(after(market=ROUND, many=2), after(ROUND, 2))
        self.assertEqual(period(market=ROUND), (7, 6))
        self.assertEqual(settles(market=SLOW), (4, (8,)))
        for call, names in ((days, ["market", "many"]), (after, ["market", "many"]),
                            (period, ["market"]), (settles, ["market"])):
            self.named(call, names, "learnprices.days")
