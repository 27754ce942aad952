"""Markets as texts: point 11."""

from learnprices.errors import BadBuyer, BadSeller, BadText
from learnprices.notes import read, written
from tests.checks import Checks
from tests.plain import DAYS_5000, LONG, ROUND, some_markets

SELLER, BUYER = "seller 20 1 2 1 0 99", "buyer 2 0 25"
NOBODY = ((), ())
TEXTS = (
    ("", NOBODY),
    (SELLER, (((20, 1, 2, 1, 0, 99),), ())),
    (SELLER + "\n" + BUYER, ROUND),
    ("buyer 2 0", ((), ((2, 0, ()),))),
    ("buyer 2 0\nbuyer 4 3", ((), ((2, 0, ()), (4, 3, ())))),
    (SELLER + "\nseller 0 5 0 9 0 0\nbuyer 2 0 25 7\nbuyer 4 3 99 0",
     (((20, 1, 2, 1, 0, 99), (0, 5, 0, 9, 0, 0)), ((2, 0, (25, 7)), (4, 3, (99, 0))))),
)


class WrittenTest(Checks):
    def test_ordinary_markets(self):
        for text, market in TEXTS:
            self.assertEqual(written(market), text)

    def test_the_most_of_all(self):
        market = (((99, 5, 9, 9, 99, 99),) * 4, ((4, 3, (99,) * 4),) * 6)
        self.assertEqual(written(market), "\n".join(["seller 99 5 9 9 99 99"] * 4 + ["buyer 4 3 99 99 99 99"] * 6))

    def test_markets_that_can_not_be(self):
        self.refused(BadSeller, {"number": 1}, written, (((20, 1, 2, 1, 0, 99), (20, 1, 2, 1, 0, 100)), ((),)))
        self.refused(BadSeller, {"number": 4}, written, (((20, 1, 2, 1, 0, 99),) * 5, ()))
        self.refused(BadBuyer, {"number": 0}, written, (((20, 1, 2, 1, 0, 99),), ((2, 0, ()),)))
        self.refused(BadBuyer, {"number": 6}, written, ((), ((2, 0, ()),) * 7))


class ReadTest(Checks):
    def test_ordinary_texts(self):
        for text, market in TEXTS:
            self.assertEqual(read(text), market)

    def test_what_is_written_is_read_to_the_same(self):
        for market in some_markets(150, 41) + [LONG, DAYS_5000]:
            self.assertEqual(read(written(market)), market)

    def test_all_numbers_of_one_and_two_figures(self):
        for number in range(100):
            self.assertEqual(read(f"seller {number} 1 0 0 {number} 99\nbuyer 1 0 {number}"),
                             (((number, 1, 0, 0, number, 99),), ((1, 0, (number,)),)))


class BadTextTest(Checks):
    def bad(self, text, row):
        with self.subTest(text=text):
            self.refused(BadText, {"row": row}, read, text)

    def bad_rows(self, sellers, *rows):
        """Check that each row is none behind so many sellers: alone, and behind a buyer, and ahead of other bad rows."""
        ahead = [SELLER] * sellers
        buyer = " ".join(["buyer 1 0"] + ["5"] * sellers)
        for row in rows:
            self.bad("\n".join(ahead + [row]), sellers)
            self.bad("\n".join(ahead + [buyer, buyer, row, buyer]), sellers + 2)
            self.bad("\n".join(ahead + [row, "", row]), sellers)

    def test_other_words(self):
        self.bad_rows(1, "sellers 20 1 2 1 0 99", "Seller 20 1 2 1 0 99", "20 1 2 1 0 99", "market 2 0 25", "BUYER 2 0 25",
                      "2 0 25", "x", "buyer: 2 0 25", "buyerseller 2 0 25", "7")

    def test_other_counts_of_words(self):
        self.bad_rows(1, "seller", "seller 20 1 2 1 0", "seller 20 1 2 1 0 99 1", "buyer", "buyer 2", "buyer 2 0",
                      "buyer 2 0 25 7")
        self.bad_rows(0, "buyer", "buyer 2", "buyer 2 0 25", "buyer 20 1 2 1 0 99")
        self.bad_rows(2, "buyer 2 0 25", "buyer 2 0", "buyer 2 0 25 7 7")

    def test_numbers_that_are_none(self):
        for word in ("00", "01", "09", "000", "100", "099", "999", "9" * 5000, "+1", "-1", "-0", "1.", "1.0", "x", "1x", "x1", "",
                     "1_0", "0x1", "1e1", "\t1", "1\t", "\r", "1\r", "\u00b2", "\u0661", "\uff11", "None", "True"):
            for at in range(6):
                words = ["20", "1", "2", "1", "0", "99"]
                words[at] = word
                self.bad("seller " + " ".join(words), 0)
                self.bad("\n".join([SELLER, "seller " + " ".join(words), BUYER]), 1)
            for at in range(3):
                words = ["2", "0", "25"]
                words[at] = word
                self.bad("\n".join([SELLER, "buyer " + " ".join(words), "x"]), 1)
                self.bad("\n".join([SELLER, BUYER, "buyer " + " ".join(words)]), 2)

    def test_empty_words(self):
        for row in (" " + SELLER, SELLER + " ", SELLER.replace(" ", "  ", 1), "seller  1 2 1 0 99", "seller 20 1 2 1 0 ",
                    " ", "  ", " seller 20 1 2 1 0", " 20 1 2 1 0 99"):
            self.bad(row, 0)
            self.bad(SELLER + "\n" + row + "\n" + BUYER, 1)
        self.bad_rows(1, " " + BUYER, BUYER + " ", "buyer  2 0 25", "buyer 2 0 ", "buyer  0 25", " 2 0 25")
        self.bad_rows(0, "buyer 2 ", "buyer  0", "buyer 2 0 ", " buyer 2 0")

    def test_a_seller_behind_a_buyer(self):
        self.bad("buyer 2 0\n" + SELLER, 1)
        self.bad("\n".join([SELLER, BUYER, SELLER]), 2)
        self.bad("\n".join([SELLER, BUYER, BUYER, SELLER, BUYER, SELLER]), 3)
        # Neither is the buyer's row one of two sellers then.
        self.bad("\n".join([SELLER, "buyer 2 0 25 7", SELLER]), 1)

    def test_line_ends(self):
        self.bad("\n", 0)
        self.bad("\n" + SELLER, 0)
        self.bad(SELLER + "\n", 1)
        self.bad("\n".join([SELLER, BUYER, ""]), 2)
        self.bad("\n".join([SELLER, BUYER, "", ""]), 2)
        self.bad("\n".join([SELLER, "", BUYER]), 1)
        self.bad(SELLER + "\r\n" + BUYER, 0)
        self.bad(SELLER + "\r" + BUYER, 0)
        self.bad(SELLER + "\u2028" + BUYER, 0)
        self.bad(SELLER + " " + BUYER, 0)

    def test_rows_are_refused_ahead_of_sellers_ahead_of_buyers(self):
        low = "seller 20 0 2 1 0 99"
        late = "buyer 2 2 25"
        self.refused(BadSeller, {"number": 0}, read, low)
        self.refused(BadSeller, {"number": 1}, read, "\n".join([SELLER, low, low]))
        self.refused(BadSeller, {"number": 0}, read, "\n".join([low, late]))
        self.refused(BadBuyer, {"number": 1}, read, "\n".join([SELLER, BUYER, late, late]))
        self.bad("\n".join([low, late, "x"]), 2)
        self.bad("\n".join([low, "buyer 2 2 100"]), 1)
        self.bad("\n".join([low, "buyer 2 2"]), 1)

    def test_numbers_that_are_none_to_sellers_and_buyers_only(self):
        for row in ("seller 20 6 2 1 0 99", "seller 20 1 10 1 0 99", "seller 20 1 2 10 0 99", "seller 20 1 2 1 21 99",
                    "seller 20 1 2 1 0 19", "seller 20 0 2 1 0 99"):
            self.refused(BadSeller, {"number": 0}, read, row)
        for row in ("buyer 0 0 25", "buyer 5 0 25", "buyer 2 2 25", "buyer 99 98 25"):
            self.refused(BadBuyer, {"number": 0}, read, SELLER + "\n" + row)

    def test_too_many_sellers_and_buyers(self):
        self.assertEqual(len(read("\n".join([SELLER] * 4))[0]), 4)
        self.refused(BadSeller, {"number": 4}, read, "\n".join([SELLER] * 5))
        self.refused(BadSeller, {"number": 4}, read, "\n".join([SELLER] * 6 + ["buyer 2 2 0 0 0 0 0 0"]))
        self.bad("\n".join([SELLER] * 6 + ["buyer 2 2 0 0 0 0"]), 6)
        self.assertEqual(len(read("\n".join([SELLER] + [BUYER] * 6))[1]), 6)
        self.refused(BadBuyer, {"number": 6}, read, "\n".join([SELLER] + [BUYER] * 7))
        self.refused(BadBuyer, {"number": 5}, read, "\n".join([SELLER] + [BUYER] * 5 + ["buyer 2 2 25", BUYER]))


class FormTest(Checks):
    def test_kinds(self):
        sellers, buyers = market = read(SELLER + "\n" + BUYER)
        self.assertEqual([kind.__class__ for kind in (market, sellers, sellers[0], buyers, buyers[0], buyers[0][2])],
                         [tuple] * 6)
        self.assertEqual([kind.__class__ for kind in sellers[0]], [int] * 6)
        self.assertEqual([kind.__class__ for kind in read("")], [tuple] * 2)
        self.assertIs(written(NOBODY).__class__, str)

    def test_arguments_by_their_names(self):
        self.assertEqual(written(market=ROUND), SELLER + "\n" + BUYER)
        self.assertEqual(read(text=SELLER + "\n" + BUYER), ROUND)
        self.named(written, ["market"], "learnprices.notes")
        self.named(read, ["text"], "learnprices.notes")
