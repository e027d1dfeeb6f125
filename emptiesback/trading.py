"""Bottles that are drunk and pieces that are traded, all that is possible at once.

Pieces are a dict from each kind to their number. It may lack kinds of the
offer, and have others, which stay as they are.
"""


def after_drinks(offer, pieces, drunk):
    """Return the pieces that are there after so many bottles have been drunk."""
    after = dict(pieces)
    for kind, left, _ in offer.trades:
        after[kind] = after.get(kind, 0) + left * drunk
    return after


def most_trades(offer, pieces):
    """Return a dict from each kind of the offer to how many trades its pieces suffice for."""
    return {kind: pieces[kind] // needed for kind, _, needed in offer.trades}


def after_trades(offer, pieces, counts):
    """Return the pieces that are there after so many trades of each kind of the offer."""
    after = dict(pieces)
    for kind, _, needed in offer.trades:
        after[kind] = after[kind] - counts[kind] * needed
    return after


def use_up(offer, full, pieces):
    """Return (drinks, pieces) in the end, with so many full bottles and these pieces at first."""
    drinks = 0
    while True:
        pieces = after_drinks(offer, pieces, full)
        drinks = drinks + full
        counts = most_trades(offer, pieces)
        pieces = after_trades(offer, pieces, counts)
        full = sum(list(counts.values()))
        if full == 0:
            return drinks, pieces
