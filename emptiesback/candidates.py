"""Numbers that are still possible, and repeat from some number on."""

from math import lcm


class Candidates:
    """Numbers from 0 on: `early` are those below `start`, in ascending order.

    From `start` on they repeat: `offsets`, in ascending order, tells which
    ones of the first `span` numbers are among them.
    """

    def __init__(self, start, early, span, offsets):
        self._start = start
        self._early = early
        self._span = span
        self._offsets = offsets

    def narrowed(self, fits, span):
        """Return those of the candidates that fit.

        `fits` tells of each number below `start`, and of `span` numbers from
        there on, whether it fits; all later ones repeat these.
        """
        start = self._start
        early = [number for number in self._early if fits[number]]
        whole = lcm(self._span, span)
        offsets = [
            base + offset
            for base in range(0, whole, self._span)
            for offset in self._offsets
            if fits[start + (base + offset) % span]
        ]
        return Candidates(start, early, whole, offsets)

    def many_within(self, last):
        """Return how many candidates are not greater than the last number."""
        many = len([number for number in self._early if number <= last])
        if last < self._start:
            return many
        turns, rest = divmod(last - self._start, self._span)
        return many + turns * len(self._offsets) + len([offset for offset in self._offsets if offset <= rest])

    def candidate(self, place):
        """Return the candidate at a place, from 0 on, in ascending order, or None."""
        if place < len(self._early):
            return self._early[place]
        if not self._offsets:
            return None
        turns, rest = divmod(place - len(self._early), len(self._offsets))
        return self._start + turns * self._span + self._offsets[rest]
