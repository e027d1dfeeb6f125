"""Stocks: full bottles and loose pieces, and the drinks that they give."""

from emptiesback.checks import check_number, is_kind
from emptiesback.errors import InvalidKind, NotEnough, UnknownKind
from emptiesback.trading import use_up

FULL = "full"
MAX_TIMES = 10 ** 9


def _check_pieces(kinds, pieces):
    for kind in kinds:
        if not is_kind(kind):
            raise InvalidKind(kind)
        check_number(pieces[kind])


class Stock:
    """A number of full bottles, and numbers of pieces by their kinds."""

    # Pieces may be of a kind "self": the first parameter has a name that no kind can have.
    def __init__(this_stock, full=0, **pieces):
        check_number(full)
        kinds = sorted([str(kind) for kind in pieces])
        _check_pieces(kinds, pieces)
        this_stock._filled = full
        this_stock._loose = {kind: pieces[kind] for kind in kinds if pieces[kind] > 0}

    @property
    def filled(self):
        """The number of full bottles."""
        return self._filled

    @property
    def loose(self):
        """A dict from each kind of which there are pieces to their number."""
        return dict(self._loose)

    def __getitem__(self, at):
        if at == FULL:
            return self._filled
        return self._loose.get(at, 0)

    def __iter__(self):
        raise TypeError("a stock is not iterated over: take its loose pieces")

    def __contains__(self, x):
        return self[x] > 0

    def __bool__(self):
        return bool(self._filled) or bool(self._loose)

    def __eq__(self, other):
        return isinstance(other, Stock) and self._filled == other._filled and self._loose == other._loose

    def __le__(self, other):
        return _never_greater(self, other)

    def __ge__(self, other):
        return _never_greater(other, self)

    def __add__(self, other):
        full = self._filled + other._filled
        pieces = {kind: self[kind] + other[kind] for kind in [*self._loose, *other._loose]}
        return Stock(full, **pieces)

    def __sub__(self, other):
        for kind in [FULL, *other._loose]:
            if other[kind] > self[kind]:
                raise NotEnough(kind)
        full = self._filled - other._filled
        pieces = {kind: self[kind] - other[kind] for kind in self._loose}
        return Stock(full, **pieces)

    def __mul__(self, other):
        check_number(other, 0, MAX_TIMES)
        full = self._filled * other
        pieces = {kind: self[kind] * other for kind in self._loose}
        return Stock(full, **pieces)

    def __call__(self, offer):
        drinks, _ = use_up(offer, self._filled, self._loose)
        return drinks


def _never_greater(one, other):
    """Return whether no number of `one` is greater than that of `other`."""
    return one.filled <= other.filled and all([one[kind] <= other[kind] for kind in one.loose])


def rest_of(offer, stock):
    """Return the stock that is left when all is drunk and traded."""
    _, pieces = use_up(offer, stock.filled, stock.loose)
    left = {kind: count for kind, count in pieces.items() if count > 0}
    # Pieces of an offer may be of this kind, those of a stock may not.
    if FULL in left:
        raise InvalidKind(FULL)
    return Stock(0, **left)


def gain_of(offer, *stocks):
    """Return how many more drinks stocks give together than each by itself."""
    together = Stock()
    apart = 0
    for stock in stocks:
        together = together + stock
        apart = apart + stock(offer)
    return together(offer) - apart


def _bottles_of_others(offer, pieces, kind, drinks):
    """Return how many bottles the pieces of all kinds but one buy after so many drinks."""
    return sum([
        (pieces.get(other, 0) + left * drinks) // needed
        for other, left, needed in offer.trades
        if other != kind
    ])


def pieces_for(offer, stock, kind, drinks):
    """Return how many more pieces of a kind a stock needs to give at least so many drinks."""
    if kind not in offer.kinds:
        raise UnknownKind("no trade takes this kind")
    check_number(drinks)
    left, needed = offer[kind]
    pieces = stock.loose
    most = 0
    # After fewer drinks a bottle must always be there. A period later, more
    # pieces are wanted for this, so that it is enough to look at the last one.
    for before in range(max(0, drinks - offer.period[1]), drinks):
        wanted = before + 1 - stock.filled - _bottles_of_others(offer, pieces, kind, before)
        further = wanted * needed - left * before - pieces.get(kind, 0)
        if further > most:
            most = further
    return most
