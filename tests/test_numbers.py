"""Point 7: which numbers of drinks come about."""

import unittest
from bisect import bisect_left

from emptiesback.errors import InvalidNumber
from emptiesback.offers import Offer
from plain import MANY, MOST, OFFERS, drinks_table

WRONG = [-1, MOST + 1, -MOST, 10 ** 5000, True, False]


class FewestBottles(unittest.TestCase):
    def test_few_drinks(self):
        for trades in OFFERS:
            offer = Offer(*trades)
            table = drinks_table(trades, 2000)
            for drinks in range(2000):
                self.assertEqual(offer.fewest_bottles(drinks), bisect_left(table, drinks), (trades, drinks))

    def test_no_drinks_need_no_bottles(self):
        for trades in OFFERS:
            self.assertEqual(Offer(*trades).fewest_bottles(0), 0)
            self.assertEqual(Offer(*trades).fewest_bottles(1), 1)

    def test_one_bottle_less_gives_fewer(self):
        for trades in OFFERS:
            offer = Offer(*trades)
            for drinks in MANY:
                bottles = offer.fewest_bottles(drinks)
                self.assertGreaterEqual(offer(bottles), drinks)
                self.assertLess(offer(bottles - 1), drinks)

    def test_the_drinks_of_a_number_of_bottles(self):
        for trades in OFFERS:
            offer = Offer(*trades)
            for bottles in [number // 11 for number in MANY]:
                self.assertEqual(offer.fewest_bottles(offer(bottles)), bottles)
                self.assertEqual(offer.fewest_bottles(offer(bottles) + 1), bottles + 1)

    def test_wrong_numbers(self):
        for drinks in WRONG:
            with self.assertRaises(InvalidNumber):
                Offer.simple(3).fewest_bottles(drinks)


class Missing(unittest.TestCase):
    def test_few_drinks(self):
        for trades in OFFERS:
            given = set(drinks_table(trades, 10000))
            missing = [drinks for drinks in range(10000) if drinks not in given]
            self.assertEqual(list(Offer(*trades).missing(0, 9999)), missing, trades)
            part = [drinks for drinks in missing if 57 <= drinks <= 311]
            self.assertEqual(list(Offer(*trades).missing(57, 311)), part)

    def test_first_and_last_are_included(self):
        offer = Offer(("empty", 1, 3), ("cap", 1, 4))
        self.assertEqual(list(offer.missing(3, 4)), [3, 4])
        self.assertEqual(list(offer.missing(3, 3)), [3])
        self.assertEqual(list(offer.missing(5, 5)), [])
        self.assertEqual(list(offer.missing(0, 0)), [])

    def test_large_numbers(self):
        for trades in OFFERS:
            offer = Offer(*trades)
            yielded = list(offer.missing(MOST - 9999, MOST))
            self.assertEqual(yielded, [d for d in range(MOST - 9999, MOST + 1) if d not in offer])
            self.assertEqual(len(yielded), offer.count_missing(MOST) - offer.count_missing(MOST - 10000))

    def test_wrong_numbers(self):
        offer = Offer.simple(3)
        wrong = [(number, 5) for number in WRONG] + [(5, number) for number in WRONG]
        wrong += [(MOST - 1, MOST + 1), (-1, 5), (False, 3), (0, True)]
        wrong += [(1, 0), (MOST, MOST - 1), (500, 3), (0, 10000), (7, 10007), (MOST - 10000, MOST), (0, MOST)]
        for first, last in wrong:
            missing = offer.missing(first, last)
            with self.assertRaises(InvalidNumber):
                next(missing)

    def test_ten_thousand_numbers_are_not_too_many(self):
        offer = Offer(("a", 0, 1))
        self.assertEqual(list(offer.missing(0, 9999)), [])
        self.assertEqual(list(offer.missing(MOST - 9999, MOST)), [])
        self.assertEqual(list(offer.missing(MOST, MOST)), [])


class CountMissing(unittest.TestCase):
    def test_few_drinks(self):
        for trades in OFFERS:
            offer = Offer(*trades)
            given = set(drinks_table(trades, 2500))
            count = 0
            for drinks in range(2500):
                count += drinks not in given
                self.assertEqual(offer.count_missing(drinks), count, (trades, drinks))

    def test_many_drinks(self):
        for trades in OFFERS:
            offer = Offer(*trades)
            for last in MANY:
                # All others are the drinks of the numbers of bottles from 0 on.
                self.assertEqual(offer.count_missing(last), last + 1 - offer.fewest_bottles(last) - (last in offer))

    def test_known_numbers(self):
        self.assertEqual(Offer.simple(2).count_missing(MOST), MOST // 2)
        self.assertEqual(Offer(("a", 0, 1)).count_missing(MOST), 0)
        self.assertEqual(Offer.simple(2).count_missing(0), 0)

    def test_wrong_numbers(self):
        for last in WRONG:
            with self.assertRaises(InvalidNumber):
                Offer.simple(3).count_missing(last)


class NthMissing(unittest.TestCase):
    def test_few_drinks(self):
        for trades in OFFERS:
            offer = Offer(*trades)
            for number, drinks in enumerate(offer.missing(0, 5000), start=1):
                self.assertEqual(offer.nth_missing(number), drinks, (trades, number))

    def test_agrees_with_the_count(self):
        for trades in OFFERS:
            offer = Offer(*trades)
            if not offer:
                continue
            for number in [1, *[number // 100 for number in MANY]]:
                drinks = offer.nth_missing(number)
                self.assertFalse(drinks in offer)
                self.assertEqual(offer.count_missing(drinks), number)
                self.assertEqual(offer.count_missing(drinks - 1), number - 1)

    def test_it_may_be_greater_than_the_limit(self):
        self.assertEqual(Offer.simple(2).nth_missing(MOST), 2 * MOST)
        self.assertEqual(Offer.simple(12).nth_missing(MOST), 12 * MOST)
        for trades in OFFERS:
            offer = Offer(*trades)
            if offer:
                drinks = offer.nth_missing(MOST)
                bottles = drinks + 1 - MOST
                # As many numbers up to it are not missing as there are numbers of bottles within it.
                if bottles <= MOST:
                    self.assertGreater(offer(bottles), drinks)
                    self.assertLess(offer(bottles - 1), drinks)
                self.assertFalse(drinks in offer)

    def test_none_if_there_are_not_so_many(self):
        for number in [1, 2, MOST]:
            self.assertIsNone(Offer(("a", 0, 1)).nth_missing(number))
            self.assertIsNone(Offer(("a", 0, 5), ("b", 0, 12)).nth_missing(number))

    def test_wrong_numbers(self):
        for offer in [Offer.simple(3), Offer(("a", 0, 1))]:
            for number in [0, *WRONG]:
                with self.assertRaises(InvalidNumber):
                    offer.nth_missing(number)


class Pooled(unittest.TestCase):
    def test_together_and_each_by_itself(self):
        for trades in OFFERS:
            offer = Offer(*trades)
            table = drinks_table(trades, 200)
            for counts in [(1, 1), (2, 3), (1, 1, 1, 1, 1), (0, 7), (50, 60, 80), (5, 0, 0, 19, 2)]:
                gained = table[sum(counts)] - sum(table[count] for count in counts)
                self.assertEqual(offer.pooled(*counts), gained)

    def test_none_or_one(self):
        for trades in OFFERS:
            offer = Offer(*trades)
            self.assertEqual([offer.pooled(), offer.pooled(0), offer.pooled(9), offer.pooled(MOST)], [0] * 4)
            self.assertEqual(offer.pooled(MOST, 0), 0)

    def test_many_bottles(self):
        half = MOST // 2
        for trades in OFFERS:
            offer = Offer(*trades)
            self.assertEqual(offer.pooled(half, half), offer(MOST) - 2 * offer(half))
            self.assertEqual(offer.pooled(MOST - 1, 1), offer(MOST) - offer(MOST - 1) - offer(1))

    def test_wrong_numbers(self):
        offer = Offer.simple(3)
        for number in WRONG:
            for counts in [(number,), (3, number), (number, 3), (3, 3, number)]:
                with self.assertRaises(InvalidNumber):
                    offer.pooled(*counts)
        for counts in [(MOST, 1), (MOST, MOST), (MOST // 2, MOST // 2, 1), (MOST + 1, -1), (-1, 2)]:
            with self.assertRaises(InvalidNumber):
                offer.pooled(*counts)


if __name__ == "__main__":
    unittest.main()
