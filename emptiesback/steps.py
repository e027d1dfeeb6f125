"""Trades played step by step."""

from emptiesback.checks import DRINK, MAX_NUMBER, check_number, is_number
from emptiesback.errors import InvalidStep


def _is_possible(offer, bottles, pieces, step):
    word, count = step
    if not is_number(count, 0, MAX_NUMBER):
        return False
    if word == DRINK:
        return count <= bottles
    return word in pieces and count * offer[word][1] <= pieces[word]


def play(offer, bottles, steps):
    """Return (drinks, bottles, pieces) after steps ("drink", count) and (kind, count)."""
    check_number(bottles)
    drinks = 0
    pieces = {kind: 0 for kind in offer.kinds}
    for index, (word, count) in enumerate(steps):
        if not _is_possible(offer, bottles, pieces, (word, count)):
            raise InvalidStep(index)
        if word == DRINK:
            drinks = drinks + count
            bottles = bottles - count
            for kind, left, _ in offer.trades:
                pieces[kind] += left * count
        else:
            bottles = bottles + count
            pieces[word] -= offer[word][1] * count
    return drinks, bottles, pieces


def greedy_steps(offer, bottles):
    """Return the steps of the rounds: all drinks, then all trades in the order of the offer."""
    steps = []
    pieces = {kind: 0 for kind in offer.kinds}
    for drunk in offer.rounds(bottles):
        steps.append((DRINK, drunk))
        for kind, left, needed in offer.trades:
            count, pieces[kind] = divmod(pieces[kind] + left * drunk, needed)
            if count > 0:
                steps.append((kind, count))
    return steps
