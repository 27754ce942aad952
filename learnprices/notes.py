"""Markets as texts."""

from learnprices.errors import BadText
from learnprices.markets import check_market


def row_of(word, numbers):
    """A row of this word and these numbers."""
    return " ".join([word] + [str(number) for number in numbers])


def written(market):
    """Write a market as rows, the sellers first."""
    check_market(market)
    sellers, buyers = market
    rows = [row_of("seller", seller) for seller in sellers]
    for every, first, worths in buyers:
        rows.append(row_of("buyer", (every, first) + worths))
    return "\n".join(rows)


def is_number(word):
    """Whether this is one or two figures, none of them needless."""
    # Python takes signs of other scripts for digits, too.
    if not word.isascii() or not word.isdigit():
        return False
    return len(word) == 1 or len(word) == 2 and word[0] != "0"


def rows_of(text):
    """The rows of a text; the empty text has none."""
    return text.split("\n") if text else []


def read(text):
    """Read a market of what is written."""
    sellers = []
    buyers = []
    for at, row in enumerate(rows_of(text)):
        word, *words = row.split(" ")
        if not all([is_number(told) for told in words]):
            raise BadText(row=at)
        numbers = tuple([int(told) for told in words])
        if word == "seller" and len(numbers) == 6 and not buyers:
            sellers.append(numbers)
        elif word == "buyer" and len(numbers) == 2 + len(sellers):
            every, first, *worths = numbers
            buyers.append((every, first, tuple(worths)))
        else:
            raise BadText(row=at)
    market = (tuple(sellers), tuple(buyers))
    check_market(market)
    return market
