"""Offers: trades of empties for full bottles, and the drinks that they give."""

from math import lcm

from emptiesback.checks import check_number, is_integer, is_kind, is_number
from emptiesback.errors import InvalidNumber, InvalidOffer, TooGenerous, UnknownKind
from emptiesback.patterns import cost_of, drinks_of_period, firsts_of, gaps_of, tops_of, value_at

MAX_LEFT = 12
MAX_LOOKED_AT = 10000


def _is_trade(kind, left, needed):
    return is_kind(kind) and is_number(left, 0, MAX_LEFT) and is_number(needed, 1, Offer.MAX_NEEDED)


def _check_trades(trades):
    if not trades:
        raise InvalidOffer(0)
    kinds = []
    for index, (kind, left, needed) in enumerate(trades):
        if index == Offer.MAX_TRADES or kind in kinds or not _is_trade(kind, left, needed):
            raise InvalidOffer(index)
        kinds.append(kind)


def _check_generosity(trades):
    whole = 1
    for _, _, needed in trades:
        whole = lcm(whole, needed)
    # The sum of left / needed in parts of the whole, as there are no fractions here.
    parts = sum([whole // needed * left for _, left, needed in trades])
    if 10 * parts > 9 * whole:
        raise TooGenerous("the pieces of ten bottles must not buy more than nine")


class Offer:
    """For how many pieces of which kinds a shop gives a full bottle."""

    MAX_TRADES = 3
    MAX_NEEDED = 12

    def __init__(self, *trades):
        _check_trades(trades)
        _check_generosity(trades)
        self._trades = tuple([(kind, left, needed) for kind, left, needed in trades])
        drinks = drinks_of_period(trades)
        self._period = (cost_of(trades, drinks), drinks)
        # Two periods, as only from the second one on the tables repeat.
        self._tops = tops_of([cost_of(trades, count) for count in range(2 * drinks)])
        self._firsts = firsts_of(self._tops)
        self._gaps = gaps_of(self._tops, self._firsts)

    @classmethod
    def simple(cls, needed):
        """Return the offer of one bottle for so many empty ones."""
        return cls(("empty", 1, needed))

    @property
    def trades(self):
        """The tuple of the trades (kind, left, needed)."""
        return self._trades

    @property
    def kinds(self):
        """The tuple of the kinds."""
        return tuple([kind for kind, _, _ in self._trades])

    @property
    def period(self):
        """The tuple (bottles, drinks) by which drinks repeat."""
        return self._period

    @property
    def steady_from(self):
        """The smallest number of bottles from which on drinks repeat."""
        bottles, drinks = self._period
        # Drinks repeat where one period more of bottles gives at least the drinks of the period.
        return self._tops[drinks - 1] + 1 - bottles

    def _drinks_for(self, bottles):
        """Return how many drinks any number of bottles gives."""
        span, rise = self._period
        return value_at(self._firsts, bottles, span, rise)

    def _most_within(self, drinks):
        """Return the greatest number of bottles that gives at most so many drinks."""
        rise, span = self._period
        return value_at(self._tops, drinks, span, rise)

    def __call__(self, bottles):
        check_number(bottles)
        return self._drinks_for(bottles)

    def trades_made(self, bottles):
        """Return a dict from each kind to the number of its trades."""
        check_number(bottles)
        drinks = self._drinks_for(bottles)
        return {kind: left * drinks // needed for kind, left, needed in self._trades}

    def left_over(self, bottles):
        """Return a dict from each kind to the number of pieces left in the end."""
        check_number(bottles)
        drinks = self._drinks_for(bottles)
        return {kind: left * drinks % needed for kind, left, needed in self._trades}

    def rounds(self, bottles):
        """Yield how many bottles are drunk in each round."""
        check_number(bottles)
        drunk = 0
        full = bottles
        while full > 0:
            yield full
            drunk = drunk + full
            full = bottles - cost_of(self._trades, drunk)

    def credit(self, bottles):
        """Return how many drinks there are if bottles are given before their pieces are there."""
        check_number(bottles)
        period_bottles, period_drinks = self._period
        turns, rest = divmod(bottles, period_bottles)
        # A whole period costs more than the rest, so that its last drinks are within one.
        drinks = period_drinks - 1
        while cost_of(self._trades, drinks) > rest:
            drinks = drinks - 1
        return turns * period_drinks + drinks

    def fewest_bottles(self, drinks):
        """Return the smallest number of bottles that gives at least so many drinks."""
        check_number(drinks)
        if drinks == 0:
            return 0
        return self._most_within(drinks - 1) + 1

    def missing(self, first, last):
        """Yield the numbers of drinks from first to last that no number of bottles gives."""
        check_number(first)
        check_number(last)
        if not 1 <= last - first + 1 <= MAX_LOOKED_AT:
            raise InvalidNumber(f"not from 1 to {MAX_LOOKED_AT} numbers to look at")
        for drinks in range(first, last + 1):
            if drinks not in self:
                yield drinks

    def count_missing(self, last):
        """Return how many numbers of drinks up to the last one no number of bottles gives."""
        check_number(last)
        # Of 0 to last, as many are given as there are numbers of bottles within it.
        return last - self._most_within(last)

    def nth_missing(self, number):
        """Return the number of drinks, counted from 1, that no number of bottles gives, or None."""
        check_number(number, 1)
        if not self._gaps:
            return None
        bottles, drinks = self._period
        return value_at(self._gaps, number - 1, drinks - bottles, drinks)

    def pooled(self, *counts):
        """Return how many more drinks numbers of bottles give together than each by itself."""
        for bottles in counts:
            check_number(bottles)
        check_number(sum(counts))
        return self._drinks_for(sum(counts)) - sum([self._drinks_for(bottles) for bottles in counts])

    def __add__(self, other):
        trades = self._trades + other.trades
        return Offer(*trades)

    def __sub__(self, other):
        if other not in self.kinds:
            raise UnknownKind("no trade takes this kind")
        trades = [trade for trade in self._trades if trade[0] != other]
        return Offer(*trades)

    def __getitem__(self, at):
        for kind, left, needed in self._trades:
            if kind == at:
                return left, needed
        raise UnknownKind("no trade takes this kind")

    def __iter__(self):
        raise TypeError("an offer is not iterated over: take its trades or its kinds")

    def __bool__(self):
        return any([left > 0 for _, left, _ in self._trades])

    def __contains__(self, x):
        if not is_integer(x) or x < 0:
            return False
        return self._drinks_for(self._most_within(x)) == x

    def __le__(self, other):
        return _never_more(self, other)

    def __lt__(self, other):
        return _never_more(self, other) and first_difference(self, other) is not None

    def __ge__(self, other):
        return _never_more(other, self)

    def __gt__(self, other):
        return _never_more(other, self) and first_difference(self, other) is not None


def _slack(one, other, bottles):
    """Return how many more bottles `one` could have without giving more drinks than `other`.

    It is negative if `one` gives more drinks than `other` for the bottles.
    """
    return one._most_within(other._drinks_for(bottles)) - bottles


def _repetition(one, other):
    """Return (start, span, fall): from start on, with span more bottles, the slack falls by fall."""
    one_bottles, one_drinks = one.period
    other_bottles, other_drinks = other.period
    drinks = lcm(one_drinks, other_drinks)
    span = drinks // other_drinks * other_bottles
    fall = span - drinks // one_drinks * one_bottles
    # So many bottles give at least as many drinks: with both offers, everything repeats from there.
    return one_drinks + other_drinks, span, fall


def _never_more(one, other):
    """Return whether `one` gives at most as many drinks as `other` for every number of bottles."""
    start, span, fall = _repetition(one, other)
    if fall > 0:
        return False
    return all([_slack(one, other, bottles) >= 0 for bottles in range(start + span)])


def first_difference(one, other):
    """Return the smallest number of bottles for which the drinks differ, or None."""
    start, span, fall = _repetition(one, other)
    for bottles in range(start + span):
        if one._drinks_for(bottles) != other._drinks_for(bottles):
            return bottles
    return None


def better_from(one, other):
    """Return the smallest number of bottles from which on `one` always gives more, or None."""
    start, span, fall = _repetition(one, other)
    if fall < 0:
        return None
    last = 0
    for bottles in range(start):
        if _slack(one, other, bottles) >= 0:
            last = bottles
    for bottles in range(start, start + span):
        slack = _slack(one, other, bottles)
        if slack >= 0 and fall == 0:
            return None
        if slack >= 0 and bottles + slack // fall * span > last:
            last = bottles + slack // fall * span
    return last + 1
