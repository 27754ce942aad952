"""A fair that goes on deed by deed: points 9 and 10, and 4 and 5 where a fair meets them."""

import copy
import random

from learnprices.days import after, days, period, settles
from learnprices.errors import BadBuyer, BadCount, BadDeed, BadPrices, BadSeller, NoBuyer
from learnprices.fairs import Fair, again
from learnprices.markets import day_of
from tests.checks import Checks
from tests.plain import LONG, one_day, some_markets, sums

SELLER, OTHER = (20, 1, 2, 1, 0, 99), (30, 2, 5, 3, 10, 40)
BUYER = (2, 0, (25,))
BAD_SELLERS = ((), SELLER[:5], SELLER + (1,), (20, 0, 2, 1, 0, 99), (20, 6, 2, 1, 0, 99), (20, 1, 10, 1, 0, 99),
               (20, 1, 2, -1, 0, 99), (20, 1, 2, 1, 21, 99), (20, 1, 2, 1, 0, 19), (20, 1, 2, 1, 0, 100))
BAD_BUYERS = ((), (2, 0), (2, 0, (25,), 1), (0, 0, (25,)), (5, 0, (25,)), (2, 2, (25,)), (2, -1, (25,)), (2, 0, ()),
              (2, 0, (25, 25)), (2, 0, (-1,)), (2, 0, (100,)))
# A deed of every sort, with goods that begin behind buyers, and a buyer that left.
DEEDS = [("begin", SELLER), ("come", BUYER), ("day",), ("day",), ("begin", OTHER), ("come", (3, 2, (99, 39))),
         ("mark", 1, 38), ("day",), ("leave", 0), ("day",), ("come", (1, 0, (50, 0))), ("day",)]


def fair_of(market):
    fair = Fair()
    for seller in market[0]:
        fair.begin(seller)
    for buyer in market[1]:
        fair.come(buyer)
    return fair


def seen(fair):
    """All that a fair tells without going on."""
    return fair.prices_now(), fair.market(), fair.takings(), fair.deeds()


def done(deeds):
    """A fair that did the deeds by its own methods."""
    fair = Fair()
    for word, *things in deeds:
        getattr(fair, word)(*things)
    return fair


class FairChecks(Checks):
    def refused_without_change(self, fair, error, value, word, *things):
        before = copy.deepcopy(seen(fair))
        twin = again(fair.deeds())
        self.refused(error, value, getattr(fair, word), *things)
        self.assertEqual(seen(fair), before)
        for _ in range(5):
            self.assertEqual(fair.day(), twin.day())
        self.assertEqual(seen(fair), seen(twin))
        # What begins or comes behind it is numbered as if it had not been.
        for fresh in (fair, twin):
            if word != "begin" and len(fresh.market()[1]) < 6:
                fresh.come((1, 0, (0,) * len(fresh.market()[0])))
        self.assertEqual(seen(fair), seen(twin))


class BeginTest(FairChecks):
    def test_a_new_fair(self):
        fair = Fair()
        self.assertEqual(seen(fair), ((), ((), ()), [], []))
        self.assertEqual([fair.day(), fair.day()], [{}, {}])
        self.assertEqual(seen(fair), ((), ((), ()), [], [("day",), ("day",)]))

    def test_goods_are_numbered(self):
        fair = Fair()
        self.assertEqual([fair.begin(SELLER), fair.begin(OTHER), fair.begin(SELLER), fair.begin(OTHER)], [0, 1, 2, 3])
        self.assertEqual(fair.prices_now(), (20, 30, 20, 30))
        self.assertEqual(fair.takings(), [0, 0, 0, 0])
        self.assertEqual(fair.market(), ((SELLER, OTHER, SELLER, OTHER), ()))

    def test_it_is_worth_nothing_to_all_that_are_there(self):
        fair = fair_of(((SELLER,), (BUYER, (1, 0, (7,)))))
        fair.begin((0, 1, 1, 1, 0, 9))
        self.assertEqual(fair.market()[1], ((2, 0, (25, 0)), (1, 0, (7, 0))))
        self.assertEqual(fair.come((1, 0, (3, 8))), 2)
        fair.begin((5, 1, 1, 1, 0, 9))
        self.assertEqual(fair.market()[1], ((2, 0, (25, 0, 0)), (1, 0, (7, 0, 0)), (1, 0, (3, 8, 0))))
        # At a price of 0 even what's worth nothing is bought.
        self.assertEqual(fair.day(), {0: 0, 1: 1})

    def test_buyers_that_came_ahead_of_all_goods(self):
        fair = Fair()
        self.assertEqual(fair.come((1, 0, ())), 0)
        fair.begin((0, 1, 1, 1, 0, 9))
        self.assertEqual(fair.market(), (((0, 1, 1, 1, 0, 9),), ((1, 0, (0,)),)))
        self.assertEqual(fair.day(), {0: 0})

    def test_sellers_that_can_not_be(self):
        for many in range(5):
            for bad in BAD_SELLERS:
                fair = fair_of(((SELLER,) * many, ()))
                self.refused_without_change(fair, BadSeller, {"number": many}, "begin", bad)
        fair = fair_of(((SELLER,), ()))
        self.refused(BadSeller, {"number": 1}, fair.begin, ())
        self.assertEqual(fair.begin(OTHER), 1)

    def test_a_fifth_is_refused(self):
        self.refused_without_change(fair_of(((SELLER,) * 4, ())), BadCount, {}, "begin", SELLER)


class ComeTest(FairChecks):
    def test_buyers_are_numbered(self):
        fair = fair_of(((SELLER,), ()))
        self.assertEqual([fair.come(BUYER) for _ in range(6)], [0, 1, 2, 3, 4, 5])
        self.assertEqual(fair.market(), ((SELLER,), (BUYER,) * 6))

    def test_buyers_that_can_not_be(self):
        for many in (0, 1, 5, 6):
            for bad in BAD_BUYERS:
                fair = fair_of(((SELLER,), (BUYER,) * many))
                self.refused_without_change(fair, BadBuyer, {"number": many}, "come", bad)
        fair = fair_of(((SELLER,), (BUYER,)))
        self.refused(BadBuyer, {"number": 1}, fair.come, (1, 0, ()))
        self.assertEqual(fair.come(BUYER), 1)

    def test_worths_are_as_many_as_goods_by_now(self):
        fair = Fair()
        self.refused(BadBuyer, {"number": 0}, fair.come, BUYER)
        fair.begin(SELLER)
        self.assertEqual(fair.come(BUYER), 0)
        fair.begin(SELLER)
        self.refused(BadBuyer, {"number": 1}, fair.come, BUYER)
        self.assertEqual(fair.come((2, 0, (25, 25))), 1)

    def test_a_seventh_is_refused(self):
        self.refused_without_change(fair_of(((SELLER,), (BUYER,) * 6)), BadCount, {}, "come", BUYER)

    def test_six_that_are_there_count_not_six_that_came(self):
        fair = fair_of(((SELLER,), (BUYER,) * 6))
        fair.leave(2)
        self.assertEqual(fair.come(BUYER), 6)
        self.refused(BadCount, {}, fair.come, BUYER)
        self.refused(BadBuyer, {"number": 7}, fair.come, ())
        fair.leave(6)
        fair.leave(0)
        self.assertEqual([fair.come(BUYER), fair.come(BUYER)], [7, 8])


class LeaveTest(FairChecks):
    def test_who_left_does_not_buy(self):
        fair = fair_of(((OTHER,), ((1, 0, (99,)), (1, 0, (99,)), (1, 0, (99,)))))
        self.assertEqual(fair.day(), {0: 0, 1: 0})
        self.assertIsNone(fair.leave(0))
        self.assertEqual(fair.day(), {1: 0, 2: 0})
        fair.leave(2)
        self.assertEqual(fair.day(), {1: 0})
        fair.leave(1)
        self.assertEqual(fair.day(), {})

    def test_who_comes_anew_has_another_number(self):
        fair = fair_of(((SELLER,), (BUYER, BUYER)))
        fair.leave(1)
        self.assertEqual(fair.come(BUYER), 2)
        fair.leave(0)
        fair.leave(2)
        self.assertEqual(fair.come((1, 0, (99,))), 3)
        self.assertEqual(fair.day(), {3: 0})

    def test_numbers_of_none(self):
        for number in (-1, 2, 3, 6, 10 ** 5000):
            self.refused_without_change(fair_of(((SELLER,), (BUYER, BUYER))), NoBuyer, {"number": number},
                                        "leave", number)
        self.refused(NoBuyer, {"number": 0}, Fair().leave, 0)

    def test_who_left_can_not_leave_again(self):
        fair = fair_of(((SELLER,), (BUYER, BUYER)))
        fair.leave(0)
        self.refused_without_change(fair, NoBuyer, {"number": 0}, "leave", 0)
        fair = fair_of(((SELLER,), (BUYER, BUYER)))
        fair.leave(1)
        fair.come(BUYER)
        self.refused_without_change(fair, NoBuyer, {"number": 1}, "leave", 1)


class MarkTest(FairChecks):
    def test_another_price(self):
        fair = fair_of(((SELLER, OTHER), ((1, 0, (50, 0)),)))
        self.assertIsNone(fair.mark(0, 45))
        self.assertEqual(fair.prices_now(), (45, 30))
        self.assertEqual(fair.day(), {0: 0})
        self.assertEqual((fair.prices_now(), fair.takings()), ((47, 27), [45, 0]))
        fair.mark(0, 51)
        self.assertEqual(fair.day(), {})
        self.assertEqual(fair.prices_now(), (50, 24))

    def test_from_low_to_high(self):
        fair = fair_of(((SELLER, OTHER), ()))
        for good, price in ((1, 10), (1, 40), (0, 0), (0, 99), (0, 99)):
            fair.mark(good, price)
            self.assertEqual(fair.prices_now()[good], price)

    def test_prices_that_can_not_be(self):
        for good, price in ((1, 9), (1, 41), (0, -1), (0, 100), (0, 10 ** 5000)):
            self.refused_without_change(fair_of(((SELLER, OTHER), (BUYER[:2] + ((25, 35),),))), BadPrices,
                                        {"good": good}, "mark", good, price)

    def test_goods_of_none(self):
        for good in (-1, -2, 2, 3, 10 ** 5000):
            for price in (20, 100):
                self.refused_without_change(fair_of(((SELLER, OTHER), ())), BadPrices, {"good": good},
                                            "mark", good, price)
        self.refused(BadPrices, {"good": 0}, Fair().mark, 0, 0)


class DayTest(FairChecks):
    def test_ordinary_days(self):
        fair = fair_of(((SELLER,), (BUYER,)))
        self.assertEqual([fair.day() for _ in range(5)], [{0: 0}, {}, {0: 0}, {}, {0: 0}])
        self.assertEqual((fair.prices_now(), fair.takings()), ((24,), [63]))

    def test_days_are_numbered_on(self):
        fair = fair_of(((OTHER,), ()))
        for _ in range(5):
            fair.day()
        # It comes on days 2, 5, 8, .., whenever it came.
        fair.come((3, 2, (99,)))
        self.assertEqual([fair.day() for _ in range(5)], [{0: 0}, {}, {}, {0: 0}, {}])
        # Neither a buyer that comes nor a seller that begins makes another day of it.
        fair.begin(SELLER)
        fair.come((4, 3, (0, 99)))
        self.assertEqual([fair.day() for _ in range(3)], [{}, {0: 0, 1: 1}, {}])

    def test_in_turn_as_they_are_numbered(self):
        fair = fair_of(((SELLER,), ((1, 0, (99,)), (1, 0, (99,)))))
        self.assertEqual(fair.day(), {0: 0})
        fair.leave(0)
        fair.come((1, 0, (99,)))
        self.assertEqual(fair.day(), {1: 0})
        fair.leave(1)
        self.assertEqual(fair.day(), {2: 0})

    def test_a_day_is_as_day_of_tells(self):
        for market in some_markets(40, 31):
            fair = fair_of(market)
            for day in range(15):
                bought, behind = day_of(market, fair.prices_now(), day)
                told = fair.day()
                self.assertEqual(list(told.items()),
                                 [(number, good) for number, good in enumerate(bought) if good is not None])
                self.assertEqual(fair.prices_now(), behind)

    def test_days_are_as_days_and_after_tell(self):
        for market in some_markets(20, 32):
            fair = fair_of(market)
            for prices, bought in days(market, 60):
                self.assertEqual(fair.prices_now(), prices)
                self.assertEqual(fair.day(), {at: good for at, good in enumerate(bought) if good is not None})
            prices, rows = after(market, 60)
            self.assertEqual((fair.prices_now(), fair.takings()), (prices, [taken for _, taken in rows]))

    def test_more_days_than_days_tells(self):
        fair = fair_of(LONG)
        for _ in range(6000):
            fair.day()
        self.assertEqual(len(fair.deeds()), 6008)


class MarketTest(FairChecks):
    def test_it_begins_today(self):
        fair = fair_of(((SELLER, OTHER), ((2, 0, (25, 0)), (3, 1, (0, 0)), (4, 3, (0, 40)), (1, 0, (0, 0)))))
        firsts = [[buyer[1] for buyer in fair.market()[1]]]
        for _ in range(12):
            fair.day()
            firsts.append([buyer[1] for buyer in fair.market()[1]])
        self.assertEqual(firsts[:5], [[0, 1, 3, 0], [1, 0, 2, 0], [0, 2, 1, 0], [1, 1, 0, 0], [0, 0, 3, 0]])
        self.assertEqual(firsts[12], firsts[0])

    def test_first_prices_are_those_now(self):
        fair = fair_of(((SELLER, OTHER), ()))
        fair.day()
        fair.day()
        self.assertEqual(fair.market(), (((18, 1, 2, 1, 0, 99), (24, 2, 5, 3, 10, 40)), ()))
        fair.mark(1, 40)
        self.assertEqual(fair.market(), (((18, 1, 2, 1, 0, 99), (40, 2, 5, 3, 10, 40)), ()))

    def test_buyers_as_they_are_numbered(self):
        fair = fair_of(((SELLER,), ((1, 0, (1,)), (1, 0, (2,)), (1, 0, (3,)))))
        fair.leave(1)
        fair.come((1, 0, (4,)))
        fair.leave(0)
        fair.come((1, 0, (5,)))
        self.assertEqual([buyer[2] for buyer in fair.market()[1]], [(3,), (4,), (5,)])

    def test_it_goes_on_as_the_fair_does(self):
        for market in some_markets(25, 33):
            fair = fair_of(market)
            for _ in range(7):
                fair.day()
                now = fair.market()
                twin = again(fair.deeds())
                for prices, bought in days(now, 25):
                    self.assertEqual(twin.prices_now(), prices)
                    self.assertEqual(twin.day(), {at: good for at, good in enumerate(bought) if good is not None})
                taken = [late - soon for late, soon in zip(twin.takings(), fair.takings())]
                self.assertEqual([row[1] for row in after(now, 25)[1]], taken)

    def test_it_is_handed_on(self):
        fair = done(DEEDS)
        now = fair.market()
        self.assertEqual(fair_of(now).market(), now)
        first, long = period(now)
        for _ in range(first):
            fair.day()
        begun = fair.prices_now()
        for _ in range(long):
            fair.day()
        self.assertEqual(fair.prices_now(), begun)
        self.assertIn(settles(now), (None, (first, begun)))


class DeedsTest(FairChecks):
    def test_every_sort(self):
        self.assertEqual(done(DEEDS).deeds(), DEEDS)

    def test_what_is_told_only_is_no_deed(self):
        fair = done(DEEDS)
        seen(fair)
        seen(fair)
        self.assertEqual(fair.deeds(), DEEDS)

    def test_worths_are_as_they_were_told(self):
        fair = fair_of(((SELLER,), (BUYER,)))
        fair.begin(OTHER)
        fair.day()
        self.assertEqual(fair.deeds(), [("begin", SELLER), ("come", BUYER), ("begin", OTHER), ("day",)])
        self.assertEqual(again(fair.deeds()).market(), fair.market())

    def test_the_same_deed_again_counts(self):
        fair = fair_of(((SELLER,), ()))
        fair.mark(0, 20)
        fair.mark(0, 20)
        self.assertEqual(fair.deeds(), [("begin", SELLER), ("mark", 0, 20), ("mark", 0, 20)])


class AgainTest(FairChecks):
    def test_deeds_of_every_sort(self):
        for many in range(len(DEEDS) + 1):
            fair = again(DEEDS[:many])
            self.assertEqual(seen(fair), seen(done(DEEDS[:many])))
            self.assertIs(fair.__class__, Fair)
        self.assertEqual(seen(again(tuple(DEEDS))), seen(done(DEEDS)))

    def test_no_deeds(self):
        self.assertEqual(seen(again([])), seen(Fair()))
        self.assertEqual(seen(again(())), seen(Fair()))

    def test_it_goes_on(self):
        fair, twin = done(DEEDS), again(DEEDS)
        for one in (fair, twin):
            self.assertEqual(one.come((1, 0, (0, 90))), 3)
        for _ in range(20):
            self.assertEqual(fair.day(), twin.day())
        self.assertEqual(seen(fair), seen(twin))

    def bad_at_each_place(self, deed):
        for at in (0, 1, 5, len(DEEDS)):
            deeds = DEEDS[:at] + [deed] + DEEDS[at:] + [deed]
            with self.subTest(deed=deed, at=at):
                self.refused(BadDeed, {"number": at}, again, deeds)
                self.refused(BadDeed, {"number": at}, again, tuple(deeds))

    def test_other_words(self):
        for word in ("", "go", "Day", "days", "prices_now", "market", "takings", "deeds", "again", "__init__", "today"):
            for things in ((), (0,), (0, 20)):
                self.bad_at_each_place((word,) + things)
        self.bad_at_each_place(())

    def test_other_counts_of_things(self):
        for deed in (("begin",), ("begin", SELLER, SELLER), ("begin",) + SELLER, ("come",), ("come", BUYER, BUYER),
                     ("come",) + BUYER, ("leave",), ("leave", 0, 1), ("mark",), ("mark", 0), ("mark", 0, 20, 20),
                     ("mark", (0, 20)), ("day", 0), ("day", ()), ("day", "day")):
            self.bad_at_each_place(deed)

    def test_refused_deeds(self):
        for bad in BAD_SELLERS:
            self.bad_at_each_place(("begin", bad))
        for bad in BAD_BUYERS[:4]:
            self.bad_at_each_place(("come", bad))
        for deed in (("leave", -1), ("leave", 7), ("mark", -1, 20), ("mark", 4, 20), ("mark", 0, -1), ("mark", 0, 100)):
            self.bad_at_each_place(deed)

    def test_too_many_are_refused(self):
        self.assertEqual(len(again([("begin", SELLER)] * 4).market()[0]), 4)
        self.refused(BadDeed, {"number": 4}, again, [("begin", SELLER)] * 5)
        self.assertEqual(len(again([("come", (1, 0, ()))] * 6).market()[1]), 6)
        self.refused(BadDeed, {"number": 6}, again, [("come", (1, 0, ()))] * 7)

    def test_a_deed_is_refused_by_what_was_done_ahead_of_it(self):
        self.refused(BadDeed, {"number": 1}, again, [("begin", SELLER), ("leave", 0), ("come", BUYER)])
        self.refused(BadDeed, {"number": 0}, again, [("mark", 0, 20), ("begin", SELLER)])
        self.refused(BadDeed, {"number": 3}, again, [("begin", SELLER), ("come", BUYER), ("leave", 0), ("leave", 0)])
        self.refused(BadDeed, {"number": 2}, again, [("begin", SELLER), ("begin", OTHER), ("come", BUYER)])


class KeptTest(FairChecks):
    def test_what_is_told_may_be_changed(self):
        fair, twin = done(DEEDS), done(DEEDS)
        fair.takings().append(7)
        fair.takings()[0] = 1000
        fair.deeds().reverse()
        fair.deeds().clear()
        bought, expected = fair.day(), twin.day()
        self.assertEqual(bought, expected)
        self.assertNotEqual(bought, {})
        bought.clear()
        bought[9] = 9
        self.assertEqual(seen(fair), seen(twin))
        self.assertEqual([fair.day() for _ in range(5)], [twin.day() for _ in range(5)])

    def test_deeds_handed_in_are_not_kept_nor_changed(self):
        deeds = list(DEEDS)
        fair = again(deeds)
        self.assertEqual(deeds, DEEDS)
        deeds.append(("day",))
        deeds[0] = ("begin", OTHER)
        self.assertEqual(seen(fair), seen(done(DEEDS)))
        fair.day()
        self.assertEqual(len(deeds), len(DEEDS) + 1)

    def test_two_fairs_are_apart(self):
        one, other = Fair(), Fair()
        one.begin(SELLER)
        one.come(BUYER)
        one.day()
        self.assertEqual(seen(other), seen(Fair()))
        self.assertEqual((other.begin(OTHER), other.come(BUYER)), (0, 0))
        self.assertEqual(one.deeds(), [("begin", SELLER), ("come", BUYER), ("day",)])
        deeds = one.deeds()
        twin = again(deeds)
        twin.day()
        twin.mark(0, 3)
        self.assertEqual(one.deeds(), deeds)
        self.assertEqual(one.prices_now(), (22,))

    def test_kinds(self):
        fair = fair_of(((SELLER,), (BUYER,)))
        told = (fair.day(), fair.prices_now(), fair.market(), fair.market()[0], fair.market()[0][0], fair.market()[1],
                fair.market()[1][0], fair.market()[1][0][2], fair.takings(), fair.deeds(), fair.deeds()[0])
        self.assertEqual([one.__class__ for one in told], [dict] + [tuple] * 7 + [list, list, tuple])

    def test_arguments_by_their_names(self):
        fair = Fair()
        self.assertEqual(fair.begin(seller=SELLER), 0)
        self.assertEqual(fair.come(buyer=BUYER), 0)
        self.assertIsNone(fair.mark(good=0, price=30))
        self.assertIsNone(fair.leave(number=0))
        self.assertEqual(seen(again(deeds=fair.deeds())), seen(fair))
        for call, names in ((Fair, []), (Fair.begin, ["self", "seller"]), (Fair.come, ["self", "buyer"]),
                            (Fair.leave, ["self", "number"]), (Fair.mark, ["self", "good", "price"]),
                            (Fair.day, ["self"]), (Fair.prices_now, ["self"]), (Fair.market, ["self"]),
                            (Fair.takings, ["self"]), (Fair.deeds, ["self"]), (again, ["deeds"])):
            self.named(call, names, "learnprices.fairs")


class Plain:
    """A fair done plainly: all buyers that ever came, with the day on which they left."""

    def __init__(self):
        self.sellers, self.buyers, self.left, self.told, self.today = [], [], set(), [], 0

    def there(self):
        return [number for number in range(len(self.buyers)) if number not in self.left]

    def day(self):
        market = (tuple(self.sellers), tuple(self.buyers[number] for number in self.there()))
        prices = tuple(seller[0] for seller in self.sellers)
        bought, behind = one_day(market, prices, self.today)
        self.told.append((prices, bought))
        self.today += 1
        self.sellers = [(price,) + seller[1:] for price, seller in zip(behind, self.sellers)]
        return {number: good for number, good in zip(self.there(), bought) if good is not None}


class ManyDeedsTest(FairChecks):
    def do_one(self, chance, fair, plain):
        word = chance.choice(["begin", "come", "come", "leave", "mark", "day", "day", "day"])
        low = chance.randint(0, 9)
        seller = (low, chance.randint(1, 2), chance.randint(0, 9), chance.randint(0, 9), low, low + 20)
        if word == "day":
            self.assertEqual(fair.day(), plain.day())
        elif word == "begin" and len(plain.sellers) < 4:
            self.assertEqual(fair.begin(seller), len(plain.sellers))
            plain.sellers.append(seller)
            plain.buyers = [(every, first, worths + (0,)) for every, first, worths in plain.buyers]
        elif word == "come" and len(plain.there()) < 6:
            every = chance.randint(1, 4)
            buyer = (every, chance.randint(0, every - 1), tuple(chance.randint(0, 35) for _ in plain.sellers))
            self.assertEqual(fair.come(buyer), len(plain.buyers))
            plain.buyers.append(buyer)
        elif word == "leave" and plain.there():
            number = chance.choice(plain.there())
            fair.leave(number)
            plain.left.add(number)
        elif word == "mark" and plain.sellers:
            good = chance.randrange(len(plain.sellers))
            old = plain.sellers[good]
            price = chance.randint(old[4], old[5])
            fair.mark(good, price)
            plain.sellers[good] = (price,) + old[1:]

    def test_they_are_as_they_are_done_plainly(self):
        chance = random.Random(34)
        for _ in range(25):
            fair, plain = Fair(), Plain()
            for _ in range(120):
                self.do_one(chance, fair, plain)
                self.assertEqual(fair.market()[0], tuple(plain.sellers))
                self.assertEqual(fair.prices_now(), tuple(seller[0] for seller in plain.sellers))
                self.assertEqual(fair.takings(), [taken for _, taken in sums((plain.sellers,), plain.told)])
            self.assertEqual(seen(again(fair.deeds())), seen(fair))
