"""How the drinks of an offer repeat.

The cost of a number of drinks is how many of the bottles at first they use
up, if all their pieces are traded: the drinks less the bottles that their
pieces buy. One more drink costs at most one bottle more, and some drinks cost
nothing or even less than nothing. A number of bottles gives the first number
of drinks with this cost. After each period, the costs come again, greater by
the bottles of the period.
"""

from math import gcd, lcm


def cost_of(trades, drinks):
    """Return the cost of a number of drinks."""
    return drinks - sum([left * drinks // needed for _, left, needed in trades])


def drinks_of_period(trades):
    """Return the smallest positive number of drinks whose pieces can all be traded."""
    drinks = 1
    for _, left, needed in trades:
        drinks = lcm(drinks, needed // gcd(left, needed))
    return drinks


def tops_of(costs):
    """Return for each number of drinks the greatest cost up to it."""
    tops = []
    top = 0
    for cost in costs:
        if cost > top:
            top = cost
        tops.append(top)
    return tops


def firsts_of(tops):
    """Return for each number of bottles the first number of drinks with this cost."""
    firsts = []
    for drinks, top in enumerate(tops):
        # The tops rise by at most 1, so that none is passed over.
        if top == len(firsts):
            firsts.append(drinks)
    return firsts


def gaps_of(tops, firsts):
    """Return the numbers of drinks that no number of bottles gives."""
    return [drinks for drinks, top in enumerate(tops) if firsts[top] != drinks]


def value_at(table, at, span, rise):
    """Return the value of a table at an index, also behind its end.

    Behind the end, the last `span` values come again and again, each time
    greater by `rise`.
    """
    if at < len(table):
        return table[at]
    turns = (at - len(table)) // span + 1
    return table[at - turns * span] + turns * rise
