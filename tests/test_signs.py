"""Point 3: offers used by signs (those that compare: test_comparing)."""

import unittest

from emptiesback.errors import InvalidNumber, InvalidOffer, TooGenerous, UnknownKind
from emptiesback.offers import Offer
from plain import MANY, OFFERS, drinks_table


class Adding(unittest.TestCase):
    def test_trades_of_both_first_those_of_the_first(self):
        one = Offer(("label", 1, 9), ("cap", 1, 4))
        other = Offer(("bag", 2, 11))
        both = one + other
        self.assertIs(type(both), Offer)
        self.assertEqual(both.trades, (("label", 1, 9), ("cap", 1, 4), ("bag", 2, 11)))
        self.assertEqual((other + one).trades, (("bag", 2, 11), ("label", 1, 9), ("cap", 1, 4)))
        self.assertEqual(both(50), Offer(("label", 1, 9), ("cap", 1, 4), ("bag", 2, 11))(50))

    def test_neither_offer_changes(self):
        one, other = Offer(("cap", 1, 4)), Offer(("bag", 2, 11))
        one + other
        self.assertEqual((one.trades, other.trades), ((("cap", 1, 4),), (("bag", 2, 11),)))

    def test_a_repeated_kind(self):
        one = Offer(("a", 1, 9), ("b", 1, 9))
        for other, index in [(Offer(("a", 1, 8)), 2), (Offer(("b", 1, 9)), 2), (one, 2)]:
            with self.assertRaises(InvalidOffer) as caught:
                one + other
            self.assertEqual(caught.exception.index, index)
        with self.assertRaises(InvalidOffer) as caught:
            Offer(("a", 1, 9)) + Offer(("a", 1, 9))
        self.assertEqual(caught.exception.index, 1)

    def test_four_trades(self):
        with self.assertRaises(InvalidOffer) as caught:
            Offer(("a", 1, 9), ("b", 1, 9)) + Offer(("c", 1, 9), ("d", 1, 9))
        self.assertEqual(caught.exception.index, 3)
        with self.assertRaises(InvalidOffer) as caught:
            Offer(("a", 1, 9), ("b", 1, 9)) + Offer(("c", 1, 9), ("a", 7, 9))
        self.assertEqual(caught.exception.index, 3)

    def test_too_generous(self):
        self.assertEqual((Offer(("a", 1, 2)) + Offer(("b", 2, 5))).kinds, ("a", "b"))
        with self.assertRaises(TooGenerous):
            Offer(("a", 1, 2)) + Offer(("b", 5, 12))
        with self.assertRaises(InvalidOffer):
            Offer(("a", 1, 2)) + Offer(("a", 5, 12))


class Taking(unittest.TestCase):
    OFFER = Offer(("a", 1, 9), ("b", 2, 10), ("c", 3, 11))

    def test_without_the_trade_of_a_kind(self):
        self.assertIs(type(self.OFFER - "a"), Offer)
        self.assertEqual((self.OFFER - "a").trades, (("b", 2, 10), ("c", 3, 11)))
        self.assertEqual((self.OFFER - "b").trades, (("a", 1, 9), ("c", 3, 11)))
        self.assertEqual((self.OFFER - "c" - "b").trades, (("a", 1, 9),))
        self.assertEqual(self.OFFER.kinds, ("a", "b", "c"))

    def test_a_kind_without_a_trade(self):
        for kind in ["d", "", "drink", "A", "ab", "Not a kind"]:
            for offer in [self.OFFER, Offer(("a", 1, 9))]:
                with self.assertRaises(UnknownKind):
                    offer - kind

    def test_the_only_trade(self):
        with self.assertRaises(InvalidOffer) as caught:
            Offer(("a", 1, 9)) - "a"
        self.assertEqual(caught.exception.index, 0)


class Items(unittest.TestCase):
    def test_left_and_needed_of_a_kind(self):
        for trades in OFFERS:
            offer = Offer(*trades)
            for kind, left, needed in trades:
                self.assertEqual(offer[kind], (left, needed))
                self.assertIs(type(offer[kind]), tuple)

    def test_a_kind_without_a_trade(self):
        for kind in ["label", "drink", "", "cap ", "ca", "Cap"]:
            with self.assertRaises(UnknownKind):
                Offer(("empty", 1, 3), ("cap", 1, 4))[kind]


class Truth(unittest.TestCase):
    def test_whether_a_bottle_leaves_any_piece(self):
        for trades in OFFERS:
            self.assertIs(bool(Offer(*trades)), sum(left for _, left, _ in trades) > 0)
        self.assertIs(bool(Offer(("a", 0, 1), ("b", 0, 2), ("c", 0, 12))), False)
        self.assertIs(bool(Offer(("a", 0, 1), ("b", 0, 2), ("c", 1, 12))), True)
        self.assertIs(bool(Offer(("a", 1, 12), ("b", 0, 2))), True)


class Calls(unittest.TestCase):
    def test_number_of_drinks(self):
        for trades in OFFERS:
            offer = Offer(*trades)
            self.assertEqual([offer(bottles) for bottles in range(300)], drinks_table(trades, 300))

    def test_wrong_numbers(self):
        for bottles in [-1, 10 ** 18 + 1, -(10 ** 18), 10 ** 5000, True, False]:
            with self.assertRaises(InvalidNumber):
                Offer.simple(3)(bottles)


class Contains(unittest.TestCase):
    def test_exactly_the_numbers_that_come_about(self):
        for trades in OFFERS:
            offer = Offer(*trades)
            given = set(drinks_table(trades, 3000))
            for drinks in range(3000):
                self.assertIs(drinks in offer, drinks in given, (trades, drinks))
                self.assertIs(drinks not in offer, drinks not in given)

    def test_no_bottles_give_no_drinks(self):
        for trades in OFFERS:
            self.assertIs(0 in Offer(*trades), True)

    def test_large_numbers(self):
        for trades in OFFERS:
            offer = Offer(*trades)
            for bottles in MANY[:-1]:
                given = [offer(bottles), offer(bottles + 1)]
                self.assertTrue(given[0] in offer and given[1] in offer)
                for between in range(given[0] + 1, given[1]):
                    self.assertFalse(between in offer)

    def test_numbers_are_not_limited(self):
        for trades in OFFERS:
            offer = Offer(*trades)
            drinks = offer.period[1]
            far = 10 ** 40 // drinks * drinks
            for number in range(drinks, drinks + 200):
                self.assertIs(far + number in offer, number in offer, (trades, number))

    def test_what_is_no_number_of_drinks(self):
        for number in [-1, -2, -12, -(10 ** 18), True, False]:
            self.assertIs(number in Offer.simple(3), False)
            self.assertIs(number in Offer(("a", 0, 1)), False)


if __name__ == "__main__":
    unittest.main()
