"""The errors of the package."""


class TradeError(ValueError):
    """The base class of all errors of the package."""


class InvalidOffer(TradeError):
    """A trade of an offer is not allowed: `index` tells which one."""

    def __init__(self, index):
        super().__init__(f"trade {index} is not allowed in this offer")
        self.index = index


class TooGenerous(TradeError):
    """The trades of an offer give back too many bottles."""


class UnknownKind(TradeError):
    """A kind of pieces has no trade in the offer."""


class InvalidNumber(TradeError):
    """A number is not an integer, or out of its range."""


class InvalidStep(TradeError):
    """A step cannot be played: `index` tells which one."""

    def __init__(self, index):
        super().__init__(f"step {index} cannot be played")
        self.index = index


class Contradiction(TradeError):
    """An observation leaves no possible number of bottles."""


class InvalidKind(TradeError):
    """A kind of pieces is not allowed: `name` tells which one."""

    def __init__(self, name):
        super().__init__(f"{name!r} is not allowed as a kind of pieces")
        self.name = name


class NotEnough(TradeError):
    """There is too little to take away: `name` tells of what."""

    def __init__(self, name):
        super().__init__(f"there is not enough of {name!r}")
        self.name = name


class InvalidReceipt(TradeError):
    """A receipt is not well formed: `row` tells the first wrong line."""

    def __init__(self, row):
        super().__init__(f"line {row} is not that of a receipt")
        self.row = row
