"""Numbers of bottles that nobody counted, found out from what is seen of them."""

from emptiesback.candidates import Candidates
from emptiesback.checks import MAX_NUMBER, check_number, is_integer
from emptiesback.errors import Contradiction, UnknownKind
from emptiesback.patterns import cost_of


def _drunk_in_round(offer, number, bottles):
    """Return how many bottles are drunk in the round 1 or 2 with so many bottles at first."""
    if number == 1:
        return bottles
    # In the second round, the bottles are drunk that the pieces of the first one buy.
    return bottles - cost_of(offer.trades, bottles)


class BottleObserver:
    """Which numbers of bottles are possible after what has been seen."""

    def __init__(self, offer):
        start = offer.steady_from
        self._offer = offer
        self._possible = Candidates(start, list(range(start)), 1, [0])
        self._observations = []

    @property
    def records(self):
        """The list of all accepted observations."""
        return list(self._observations)

    def _accept(self, fits, span, record):
        narrowed = self._possible.narrowed(fits, span)
        remaining = narrowed.many_within(MAX_NUMBER)
        if remaining == 0:
            raise Contradiction("no number of bottles would remain possible")
        self._possible = narrowed
        self._observations.append(record)
        return remaining

    def see_left(self, kind, count):
        """Record how many pieces of a kind were left; return how many numbers remain possible."""
        offer = self._offer
        if kind not in offer.kinds:
            raise UnknownKind("no trade takes this kind")
        # A period more of bottles leaves the same pieces, once drinks repeat.
        span = offer.period[0]
        seen = range(offer.steady_from + span)
        fits = [is_integer(count) and offer.left_over(bottles)[kind] == count for bottles in seen]
        return self._accept(fits, span, ("left", kind, count))

    def see_round(self, number, parity):
        """Record whether the bottles of a round were even or odd; return how many numbers remain possible."""
        check_number(number, 1, 2)
        check_number(parity, 0, 1)
        offer = self._offer
        # All pieces of the drinks of a period buy bottles, those of two periods an even number.
        span = 2 if number == 1 else 2 * offer.period[1]
        seen = range(offer.steady_from + span)
        fits = [_drunk_in_round(offer, number, bottles) % 2 == parity for bottles in seen]
        return self._accept(fits, span, ("round", number, parity))

    def count_up_to(self, last):
        """Return how many possible numbers are not greater than the last one."""
        check_number(last)
        return self._possible.many_within(last)

    def nth_possible(self, number):
        """Return the possible number with a number, counted from 1, or None."""
        check_number(number, 1, MAX_NUMBER + 1)
        bottles = self._possible.candidate(number - 1)
        if bottles is None or bottles > MAX_NUMBER:
            return None
        return bottles
