"""Shops: who gives bottles for pieces, and what is drunk day by day."""

from emptiesback.checks import check_number
from emptiesback.errors import UnknownKind
from emptiesback.trading import after_drinks, after_trades, most_trades

MAX_LENGTH = 28


class Shop:
    """A shop that gives bottles as its offer says."""

    KIND = "shop"

    def __init__(self, offer):
        self._offer = offer

    @property
    def terms(self):
        """The offer of the shop."""
        return self._offer

    def _granted(self, kind, count, given):
        """Return how many of `count` bottles for a kind the shop gives, after so many given bottles."""
        return count

    def _is_open(self, day):
        """Return whether the shop is open on a day."""
        return True

    def _trades_granted(self, pieces, given):
        """Return a dict from each kind to the trades of one day, after so many given bottles."""
        counts = {}
        for kind, count in most_trades(self._offer, pieces).items():
            counts[kind] = self._granted(kind, count, given)
            given = given + counts[kind]
        return counts

    def days(self, stock, start):
        """Yield (day, bottles drunk, bottles given) from a day on, where anything is drunk or given."""
        check_number(start)
        day = start
        full = stock.filled
        pieces = stock.loose
        given_before = 0
        while True:
            pieces = after_drinks(self._offer, pieces, full)
            counts = self._trades_granted(pieces, given_before)
            given = sum(list(counts.values()))
            if full == 0 and given == 0:
                return
            if self._is_open(day):
                pieces = after_trades(self._offer, pieces, counts)
            else:
                given = 0
            if full > 0 or given > 0:
                yield day, full, given
            full = given
            given_before = given_before + given
            day = day + 1

    def __call__(self, stock):
        return _drinks_at(self, stock)


class LimitedShop(Shop):
    """A shop that gives at most so many bottles in all."""

    KIND = "limited"

    def __init__(self, offer, most):
        check_number(most)
        super().__init__(offer)
        self._most = most

    def _granted(self, kind, count, given):
        if count > self._most - given:
            return self._most - given
        return count

    def __call__(self, stock):
        return _drinks_at(self, stock)


class ChosenShop(Shop):
    """A shop that takes only pieces of some kinds."""

    KIND = "chosen"

    def __init__(self, offer, *kinds):
        for kind in kinds:
            if kind not in offer.kinds:
                raise UnknownKind("no trade takes this kind")
        super().__init__(offer)
        self._chosen = kinds

    def _granted(self, kind, count, given):
        if kind in self._chosen:
            return count
        return 0

    def __call__(self, stock):
        return _drinks_at(self, stock)


class DayShop(Shop):
    """A shop that is open only on some days, which come again after so many days."""

    KIND = "day"

    def __init__(self, offer, length, *days_open):
        check_number(length, 1, MAX_LENGTH)
        for day in days_open:
            check_number(day, 0, length - 1)
        super().__init__(offer)
        self._length = length
        self._days_open = days_open

    def _granted(self, kind, count, given):
        # If no day is one on which the shop is open, waiting for it would never end.
        if self._days_open:
            return count
        return 0

    def _is_open(self, day):
        return day % self._length in self._days_open

    def __call__(self, stock):
        return _drinks_at(self, stock)


def _drinks_at(shop, stock):
    """Return how many drinks a stock gives at a shop."""
    return sum([drunk for _, drunk, _ in shop.days(stock, 0)])


def last_day(shop, stock, start):
    """Return the last day from a day on, on which anything is drunk or given, or None."""
    last = None
    for day, _, _ in shop.days(stock, start):
        last = day
    return last
