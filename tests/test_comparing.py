"""Point 8, and the signs of point 3 that compare."""

import random
import unittest
from fractions import Fraction

from emptiesback.errors import TooGenerous
from emptiesback.offers import Offer, better_from, first_difference
from plain import OFFERS, drinks_table

FAR = 4000


def rate(trades):
    """Return how many pieces of a bottle come back for each one drunk."""
    return sum(Fraction(left, needed) for _, left, needed in trades)


def small_offers(seed, count):
    """Return trades with so small periods that everything repeats long before FAR."""
    chance = random.Random(seed)
    found = []
    while len(found) < count:
        kinds = ["a", "b", "c"][:chance.randint(1, 3)]
        trades = [(kind, chance.randint(0, 4), chance.choice([1, 2, 3, 4, 6, 12])) for kind in kinds]
        try:
            Offer(*trades)
        except TooGenerous:
            continue
        found.append(trades)
    return found


def expected(one, other):
    """Return what a comparison of two offers gives, bottle by bottle."""
    ones, others = drinks_table(one, FAR), drinks_table(other, FAR)
    pairs = list(zip(ones, others))
    difference = next((b for b, (mine, yours) in enumerate(pairs) if mine != yours), None)
    last = max(b for b, (mine, yours) in enumerate(pairs) if mine <= yours)
    better = None if last >= FAR - 500 else last + 1
    return difference, better, all(mine <= yours for mine, yours in pairs)


class Comparing(unittest.TestCase):
    def assert_compared(self, one, other):
        difference, better, never_more = expected(one, other)
        told = (one, other)
        offers = (Offer(*one), Offer(*other))
        self.assertEqual(first_difference(*offers), difference, told)
        self.assertEqual(better_from(*offers), better, told)
        self.assertIs(offers[0] <= offers[1], never_more, told)
        self.assertIs(offers[0] < offers[1], never_more and difference is not None, told)
        self.assertIs(offers[1] >= offers[0], never_more, told)
        self.assertIs(offers[1] > offers[0], never_more and difference is not None, told)

    def test_small_offers_bottle_by_bottle(self):
        offers = small_offers(8, 120)
        for one, other in zip(offers, offers[1:]):
            self.assert_compared(one, other)
            self.assert_compared(other, one)

    def test_equal_rates_bottle_by_bottle(self):
        offers = sorted(small_offers(9, 150), key=rate)
        pairs = [pair for pair in zip(offers, offers[1:]) if rate(pair[0]) == rate(pair[1])]
        self.assertGreater(len(pairs), 60)
        for one, other in pairs:
            self.assert_compared(one, other)
            self.assert_compared(other, one)

    def test_an_offer_with_itself(self):
        for trades in OFFERS:
            one, same = Offer(*trades), Offer(*trades)
            for other in [one, same]:
                self.assertIsNone(first_difference(one, other))
                self.assertIsNone(better_from(one, other))
                self.assertIs(one <= other, True)
                self.assertIs(one >= other, True)
                self.assertIs(one < other, False)
                self.assertIs(one > other, False)

    def test_other_trades_with_the_same_drinks(self):
        for one, other in [
            ([("a", 1, 3)], [("b", 4, 12)]),
            ([("a", 0, 1)], [("a", 0, 12), ("c", 0, 7)]),
            ([("a", 1, 3), ("b", 1, 4)], [("b", 1, 4), ("c", 0, 2), ("a", 2, 6)]),
        ]:
            one, other = Offer(*one), Offer(*other)
            self.assertIsNone(first_difference(one, other))
            self.assertIsNone(better_from(one, other))
            self.assertEqual([one <= other, one >= other, one < other, one > other], [True, True, False, False])

    def test_neither_gives_at_most_as_many(self):
        one, other = [("a", 1, 5), ("b", 1, 7)], [("a", 1, 3)]
        self.assertEqual(better_from(Offer(*one), Offer(*other)), 94)
        self.assert_compared(one, other)
        self.assert_compared(other, one)
        one, other = Offer(*one), Offer(*other)
        self.assertEqual([one <= other, one >= other, one < other, one > other], [False] * 4)

    def test_no_pieces_give_least(self):
        none = Offer(("a", 0, 12))
        for trades in OFFERS:
            offer = Offer(*trades)
            self.assertIs(none <= offer, True)
            self.assertIs(offer >= none, True)
            self.assertIs(none < offer, bool(offer))
            self.assertIs(offer > none, bool(offer))
            self.assertIs(offer <= none, not offer)


class FarAway(unittest.TestCase):
    # Rates that differ by little: the better offer wins late.
    PAIRS = [
        ([("a", 1, 10), ("b", 2, 11), ("c", 1, 12)], [("a", 1, 7), ("b", 0, 9), ("c", 2, 9)], 18820),
        ([("a", 1, 12), ("b", 2, 11), ("c", 1, 10)], [("b", 1, 7), ("a", 2, 9)], 18820),
        ([("a", 1, 9), ("b", 1, 10), ("c", 2, 11)], [("a", 1, 7), ("b", 1, 8), ("c", 1, 8)], 15192),
        ([("a", 1, 6), ("b", 2, 10), ("c", 1, 12)], [("a", 1, 7), ("b", 1, 8), ("c", 2, 11)], 2742),
        ([("a", 1, 4), ("b", 1, 5), ("c", 1, 11)], [("a", 3, 7), ("b", 1, 9)], 563),
    ]

    def test_the_better_one_wins_late(self):
        for one, other, better in self.PAIRS:
            self.assertTrue(0 < rate(one) - rate(other) < Fraction(1, 500))
            pairs = list(zip(drinks_table(one, 60000), drinks_table(other, 60000)))
            last = max(bottles for bottles, (mine, yours) in enumerate(pairs) if mine <= yours)
            self.assertEqual(last + 1, better)
            self.assertEqual(better_from(Offer(*one), Offer(*other)), better)
            self.assertIsNone(better_from(Offer(*other), Offer(*one)))
            self.assertIs(Offer(*one) <= Offer(*other), False)
            self.assertIs(Offer(*other) <= Offer(*one), all(yours <= mine for mine, yours in pairs))

    def test_long_periods_agree_with_the_drinks(self):
        offers = [trades for trades in OFFERS if Offer(*trades).period[1] >= 60]
        self.assertGreater(len(offers), 3)
        for one_trades in offers:
            for other_trades in offers:
                self.assert_agrees(Offer(*one_trades), Offer(*other_trades))

    def assert_agrees(self, one, other):
        far = [*range(3000), *range(10 ** 18 - 300, 10 ** 18 + 1)]
        differ = [bottles for bottles in far if one(bottles) != other(bottles)]
        self.assertEqual(first_difference(one, other), min(differ, default=None))
        better = better_from(one, other)
        if better is not None:
            self.assertGreater(better, 0)
            self.assertLessEqual(one(better - 1), other(better - 1))
            self.assertTrue(all(one(bottles) > other(bottles) for bottles in far if bottles >= better))
        else:
            self.assertFalse(all(one(bottles) > other(bottles) for bottles in far[3000:]))
        if one <= other:
            self.assertTrue(all(one(bottles) <= other(bottles) for bottles in far))
        if better is not None:
            self.assertFalse(one <= other)

    def test_better_for_ever_with_equal_rates(self):
        one = Offer(("a", 4, 10), ("b", 5, 11))
        other = Offer(("a", 1, 10), ("b", 3, 10), ("c", 5, 11))
        self.assertEqual(one.period[0] * other.period[1], other.period[0] * one.period[1])
        self.assertEqual(better_from(one, other), 3)
        self.assertIsNone(better_from(other, one))

    def test_no_number_of_bottles_is_better_than_none(self):
        for trades in OFFERS:
            offer = Offer(*trades)
            if offer:
                better = better_from(offer, Offer(("x", 0, 1)))
                self.assertEqual(better, next(b for b in range(20) if offer(b) > b))
            self.assertIsNone(better_from(Offer(("x", 0, 1)), offer))


if __name__ == "__main__":
    unittest.main()
