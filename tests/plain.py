"""Plain simulations that the tests compare the package with."""

import random

MOST = 10 ** 18

# Each offer as its trades: one to three trades, left 0 and 10, needed 1 and 12,
# sums of 0, of exactly 9 / 10 and in between, periods from 1 to 990 drinks.
OFFERS = [
    [("empty", 1, 3), ("cap", 1, 4)],
    [("empty", 1, 2)],
    [("empty", 1, 12)],
    [("empty", 0, 1)],
    [("empty", 0, 12), ("cap", 0, 7)],
    [("empty", 9, 10)],
    [("empty", 10, 12)],
    [("empty", 2, 4), ("cap", 0, 1), ("label", 3, 9)],
    [("empty", 1, 2), ("cap", 1, 5), ("label", 1, 5)],
    [("label", 3, 10), ("cap", 3, 10), ("empty", 3, 10)],
    [("a", 1, 12), ("b", 2, 5), ("c", 5, 12)],
    [("a", 2, 9), ("b", 3, 10), ("c", 3, 11)],
    [("a", 7, 11), ("b", 1, 9)],
    [("a", 3, 8), ("b", 2, 7), ("c", 1, 5)],
]

# Numbers of bottles that are too many to be drunk one by one.
MANY = [10 ** 6, 123456789, 10 ** 12 + 7, 999999999999999999 // 7, MOST - 1, MOST]


def first_kind(possible):
    """Trade before drinking, the first kind first."""
    return (possible[1:] or possible)[0]


def last_kind(possible):
    """Trade before drinking, the last kind first."""
    return possible[-1]


def drink_first(possible):
    """Drink before trading."""
    return possible[0]


def at_random(seed):
    """Drink or trade by chance, but the same in each run of the tests."""
    return random.Random(seed).choice


def orders():
    """Return several ways to choose the next step."""
    return [first_kind, last_kind, drink_first, at_random(1), at_random(2), at_random(3)]


def simulate(trades, bottles, choose, pieces=()):
    """Drink and trade one by one; return the drinks, the trades, the pieces left and the steps."""
    drinks = 0
    made = {kind: 0 for kind, _, _ in trades}
    loose = {kind: dict(pieces).get(kind, 0) for kind, _, _ in trades}
    needs = {kind: needed for kind, _, needed in trades}
    steps = []
    while True:
        possible = ["drink"] if bottles else []
        possible += [kind for kind in needs if loose[kind] >= needs[kind]]
        if not possible:
            return drinks, made, loose, steps
        word = choose(possible)
        steps.append((word, 1))
        if word == "drink":
            bottles -= 1
            drinks += 1
            for kind, left, _ in trades:
                loose[kind] += left
        else:
            bottles += 1
            loose[word] -= needs[word]
            made[word] += 1


def simulate_rounds(trades, bottles):
    """Return how many bottles are drunk in each round, trading one by one."""
    loose = {kind: 0 for kind, _, _ in trades}
    rounds = []
    while bottles:
        rounds.append(bottles)
        drunk, bottles = bottles, 0
        for kind, left, needed in trades:
            loose[kind] += left * drunk
            while loose[kind] >= needed:
                loose[kind] -= needed
                bottles += 1
    return rounds


def ends_table(trades, count):
    """Return (drinks, pieces left) for 0 bottles, 1 bottle and so on, for so many numbers of bottles.

    As the order does not matter, each next bottle is drunk after all others.
    """
    table = []
    drinks = 0
    loose = {kind: 0 for kind, _, _ in trades}
    for bottles in range(count):
        full = min(bottles, 1)
        while full:
            full -= 1
            drinks += 1
            for kind, left, needed in trades:
                loose[kind] += left
                while loose[kind] >= needed:
                    loose[kind] -= needed
                    full += 1
        table.append((drinks, dict(loose)))
    return table


def drinks_table(trades, count):
    """Return the drinks for 0 bottles, 1 bottle and so on, for so many numbers of bottles."""
    return [drinks for drinks, _ in ends_table(trades, count)]


def simulate_days(trades, full, pieces, start, count, may_give, is_open):
    """Drink and trade one by one for so many days; return (day, drunk, given) where there is any.

    `may_give` tells of a kind and a number of given bottles whether one more is given for the kind.
    """
    loose = {kind: dict(pieces).get(kind, 0) for kind, _, _ in trades}
    given = 0
    told = []
    for day in range(start, start + count):
        drunk, full = full, 0
        for kind, left, _ in trades:
            loose[kind] += left * drunk
        for kind, _, needed in trades:
            while is_open(day) and loose[kind] >= needed and may_give(kind, given):
                loose[kind] -= needed
                full += 1
                given += 1
        if drunk or full:
            told.append((day, drunk, full))
    assert not full, "not enough days"
    return told


def bought(trades, drinks, pieces=()):
    """Return how many bottles the pieces of so many drinks buy, with those that are there at first."""
    return sum((dict(pieces).get(kind, 0) + left * drinks) // needed for kind, left, needed in trades)


def is_period(trades, drinks):
    """Return whether the pieces of so many drinks can all be traded."""
    return all(left * drinks % needed == 0 for _, left, needed in trades)
