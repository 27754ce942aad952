"""Nothing that is handed in is changed, and what is told may be: point 1."""

import copy
import unittest

from learnprices.days import after, days, period, settles
from learnprices.dealing import best, gain_of, greatest_prices, least_prices, supports
from learnprices.errors import PriceError
from learnprices.markets import day_of
from learnprices.notes import read, written
from learnprices.steady import pulls, stays, steady
from tests.plain import LONG, ROUND

PAIR = (((20, 2, 3, 1, 10, 30), (20, 1, 3, 1, 10, 30)), ((1, 0, (25, 25)), (1, 0, (25, 25)), (2, 0, (30, 30))))
CALLS = (lambda market: day_of(market, first_prices(market), 0), lambda market: days(market, 30),
         lambda market: after(market, 30), period, settles, lambda market: stays(market, first_prices(market)), steady,
         pulls, lambda market: best(market, 0), lambda market: gain_of(market, 0, 0),
         lambda market: least_prices(market, 0), lambda market: greatest_prices(market, 0),
         lambda market: supports(market, 0, best(market, 0)[1], least_prices(market, 0)), written,
         lambda market: read(written(market)))


def first_prices(market):
    return tuple(seller[0] for seller in market[0])


def spoil(told):
    """Change all lists in what is told."""
    if isinstance(told, (list, tuple)):
        for part in told:
            spoil(part)
    if isinstance(told, list):
        told.reverse()
        told.append("spoilt")


class KeptTest(unittest.TestCase):
    def test_nothing_handed_in_is_changed(self):
        for market in (ROUND, PAIR):
            before = copy.deepcopy(market)
            for call in CALLS:
                call(market)
                self.assertEqual(market, before)

    def test_what_is_told_may_be_changed(self):
        for market in (ROUND, PAIR):
            for call in CALLS:
                told = call(market)
                before = copy.deepcopy(told)
                spoil(told)
                self.assertEqual(call(market), before)

    def test_no_list_is_told_twice(self):
        told = days(PAIR, 30)
        before = copy.deepcopy(told)
        told[0][1].append("spoilt")
        self.assertEqual(told[1:], before[1:])
        self.assertEqual(len({id(bought) for _, bought in told}), 30)

    def test_lists_handed_in_are_neither_changed_nor_kept(self):
        goods, prices = [0, 0, None], [20, 0]
        self.assertIs(supports(PAIR, 1, goods, prices), False)
        self.assertEqual((goods, prices), ([0, 0, None], [20, 0]))
        goods[1], prices[0] = 1, 0
        self.assertIs(supports(PAIR, 1, goods, prices), True)
        self.assertRaises(PriceError, supports, PAIR, 1, goods + [None], prices)
        self.assertRaises(PriceError, supports, PAIR, 1, goods, prices + [0])
        self.assertEqual((goods, prices), ([0, 1, None], [0, 0]))

    def test_what_is_refused_changes_nothing(self):
        before = [call(PAIR) for call in CALLS]
        long_before = copy.deepcopy(LONG)
        for prices, day in (((9, 20), 0), ((20,), 0), ((20, 20, 20), 0), ((20, 20), -1)):
            self.assertRaises(PriceError, day_of, PAIR, prices, day)
        self.assertRaises(PriceError, days, PAIR, 501)
        self.assertRaises(PriceError, days, (PAIR[0], PAIR[1] + ((1, 1, (5, 5)),)), 5)
        self.assertRaises(PriceError, after, PAIR, -1)
        for refused in (lambda: after(LONG, 3), lambda: period(LONG), lambda: settles(LONG), lambda: steady(LONG),
                        lambda: pulls(LONG), lambda: best(PAIR, -1), lambda: gain_of(PAIR, 0, 3),
                        lambda: least_prices(PAIR, -1), lambda: greatest_prices(PAIR, -1),
                        lambda: supports(PAIR, 0, [0, 0, 0], (0, 0)), lambda: stays(PAIR, (9, 20)),
                        lambda: written((PAIR[0], ((1, 1, (5, 5)),))), lambda: read("x")):
            self.assertRaises(PriceError, refused)
        self.assertEqual(LONG, long_before)
        self.assertEqual([call(PAIR) for call in CALLS], before)
