"""The refusals of the program."""


class PriceError(ValueError):
    """Any refusal."""


class BadSeller(PriceError):
    """The seller of this number can't be."""

    def __init__(self, number):
        PriceError.__init__(self, f"seller {number} can't be")
        self.number = number


class BadBuyer(PriceError):
    """The buyer of this number can't be."""

    def __init__(self, number):
        PriceError.__init__(self, f"buyer {number} can't be")
        self.number = number


class BadPrices(PriceError):
    """The price of this good can't be, or there is none, or one too many."""

    def __init__(self, good):
        # The good may be a caller's own number, too long for Python to write out.
        PriceError.__init__(self, "the price of a good can't be")
        self.good = good


class BadCount(PriceError):
    """So many, or a day of this number, can't be."""


class TooMany(PriceError):
    """There is more to go through than the program does."""


class BadDealing(PriceError):
    """What this buyer has can't be."""

    def __init__(self, buyer):
        PriceError.__init__(self, f"what buyer {buyer} has can't be")
        self.buyer = buyer


class NoBuyer(PriceError):
    """There is no buyer of this number."""

    def __init__(self, number):
        # The number is a caller's own, perhaps too long for Python to write out.
        PriceError.__init__(self, "there is no such buyer")
        self.number = number


class BadDeed(PriceError):
    """The deed of this number is none, or is refused."""

    def __init__(self, number):
        PriceError.__init__(self, f"deed {number} can't be done")
        self.number = number


class BadText(PriceError):
    """The row of this number can't be read."""

    def __init__(self, row):
        PriceError.__init__(self, f"row {row} can't be read")
        self.row = row
