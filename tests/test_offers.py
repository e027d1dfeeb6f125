"""Point 2: the trades of an offer, their errors, the properties and the class values."""

import unittest

from emptiesback.errors import InvalidOffer, TooGenerous
from emptiesback.offers import Offer
from plain import OFFERS


class Trades(unittest.TestCase):
    def test_one_to_three_trades_and_their_kinds(self):
        for trades in OFFERS:
            offer = Offer(*trades)
            self.assertEqual(offer.trades, tuple(trades))
            self.assertEqual(offer.kinds, tuple(kind for kind, _, _ in trades))
            self.assertIs(type(offer.trades), tuple)
            self.assertIs(type(offer.kinds), tuple)
            self.assertTrue(all(type(trade) is tuple for trade in offer.trades))
        self.assertEqual({len(trades) for trades in OFFERS}, {1, 2, 3})

    def test_kinds_keep_the_order_of_the_offer(self):
        self.assertEqual(Offer(("b", 1, 4), ("c", 1, 5), ("a", 1, 6)).kinds, ("b", "c", "a"))

    def test_kinds_of_one_to_eight_letters(self):
        for kind in ["a", "z", "empty", "abcdefgh", "zzzzzzzz", "drinks", "drin", "full", "rink"]:
            self.assertEqual(Offer((kind, 1, 3)).kinds, (kind,))

    def test_first_and_last_allowed_numbers(self):
        for left, needed in [(0, 1), (0, 12), (1, 12), (10, 12), (1, 2), (9, 10)]:
            self.assertEqual(Offer(("cap", left, needed)).trades, (("cap", left, needed),))

    def test_class_values(self):
        self.assertEqual((Offer.MAX_TRADES, Offer.MAX_NEEDED), (3, 12))
        self.assertEqual((Offer.simple(3).MAX_TRADES, Offer.simple(3).MAX_NEEDED), (3, 12))


class Simple(unittest.TestCase):
    def test_one_empty_of_each_bottle(self):
        for needed in range(2, 13):
            offer = Offer.simple(needed)
            self.assertIs(type(offer), Offer)
            self.assertEqual(offer.trades, (("empty", 1, needed),))

    def test_needed_out_of_range(self):
        for needed in [0, -1, 13, 10 ** 20, True, False]:
            with self.assertRaises(InvalidOffer) as caught:
                Offer.simple(needed)
            self.assertEqual(caught.exception.index, 0)

    def test_a_bottle_for_each_empty_is_too_generous(self):
        with self.assertRaises(TooGenerous):
            Offer.simple(1)


class Invalid(unittest.TestCase):
    def assert_invalid(self, index, *trades):
        with self.assertRaises(InvalidOffer) as caught:
            Offer(*trades)
        self.assertEqual(caught.exception.index, index, trades)

    def test_no_trade(self):
        self.assert_invalid(0)

    def test_kind_that_is_not_allowed(self):
        for kind in ["", "abcdefghi", "drink", "Cap", "CAP", "cap1", "a b", " cap", "cap ", "a-b", "a_b",
                     "caf\u00e9", "\u00df", "\u0430", "cap\n", "`", "{", "3", None, 3]:
            self.assert_invalid(0, (kind, 1, 3))
            self.assert_invalid(1, ("empty", 1, 3), (kind, 1, 4))
            self.assert_invalid(2, ("empty", 1, 3), ("cap", 1, 4), (kind, 0, 4))

    def test_left_out_of_range(self):
        for left in [-1, 13, 10 ** 20, -(10 ** 20), True, False]:
            self.assert_invalid(0, ("cap", left, 12))
            self.assert_invalid(1, ("empty", 1, 3), ("cap", left, 12))

    def test_needed_out_of_range(self):
        for needed in [0, -1, 13, 10 ** 20, -(10 ** 20), True, False]:
            self.assert_invalid(0, ("cap", 0, needed))
            self.assert_invalid(2, ("empty", 1, 3), ("rag", 1, 4), ("cap", 0, needed))

    def test_a_kind_that_is_repeated(self):
        self.assert_invalid(1, ("cap", 1, 3), ("cap", 1, 3))
        self.assert_invalid(1, ("cap", 1, 3), ("cap", 2, 7), ("empty", 1, 9))
        self.assert_invalid(2, ("cap", 1, 3), ("empty", 1, 9), ("cap", 0, 1))
        self.assert_invalid(2, ("cap", 1, 3), ("empty", 1, 9), ("empty", 0, 1))

    def test_the_fourth_trade(self):
        four = [("a", 1, 9), ("b", 1, 9), ("c", 1, 9), ("d", 1, 9)]
        self.assertEqual(Offer(*four[:3]).kinds, ("a", "b", "c"))
        self.assert_invalid(3, *four)
        self.assert_invalid(3, *four, ("e", 1, 9))
        self.assert_invalid(3, *four[:3], ("a", 1, 9))
        self.assert_invalid(3, *four[:3], ("Bad", 1, 9))

    def test_the_first_of_several_is_told(self):
        self.assert_invalid(0, ("Bad", 1, 9), ("Bad", 1, 9))
        self.assert_invalid(1, ("a", 1, 9), ("a", 1, 9), ("b", 99, 9))
        self.assert_invalid(1, ("a", 1, 9), ("b", 99, 9), ("a", 1, 9))
        self.assert_invalid(2, ("a", 1, 9), ("b", 1, 9), ("c", 1, 13), ("d", 1, 9))
        self.assert_invalid(0, ("a", 1, 0), ("b", 1, 9), ("c", 1, 9), ("d", 1, 9))


class Generous(unittest.TestCase):
    def assert_generous(self, *trades):
        with self.assertRaises(TooGenerous):
            Offer(*trades)

    def test_nine_tenths_are_allowed(self):
        for trades in [
            [("a", 9, 10)],
            [("a", 1, 10), ("b", 8, 10)],
            [("a", 1, 2), ("b", 2, 5)],
            [("a", 1, 12), ("b", 2, 5), ("c", 5, 12)],
            [("a", 1, 6), ("b", 1, 3), ("c", 2, 5)],
            [("a", 3, 10), ("b", 3, 10), ("c", 3, 10)],
        ]:
            self.assertEqual(Offer(*trades).trades, tuple(trades))

    def test_just_more_than_nine_tenths(self):
        self.assert_generous(("a", 10, 11))
        self.assert_generous(("a", 1, 12), ("b", 9, 11))
        self.assert_generous(("a", 1, 11), ("b", 1, 7), ("c", 2, 3))
        self.assert_generous(("a", 2, 9), ("b", 1, 4), ("c", 3, 7))

    def test_much_more_than_nine_tenths(self):
        self.assert_generous(("a", 11, 12))
        self.assert_generous(("a", 1, 1))
        self.assert_generous(("a", 12, 12))
        self.assert_generous(("a", 12, 1), ("b", 12, 1), ("c", 12, 1))

    def test_trades_are_checked_first(self):
        for trades in [
            [("a", 12, 1), ("a", 1, 9)],
            [("a", 12, 1), ("b", 13, 1)],
            [("a", 12, 1), ("b", 1, 0)],
            [("a", 12, 1), ("Bad", 1, 9)],
        ]:
            with self.assertRaises(InvalidOffer) as caught:
                Offer(*trades)
            self.assertEqual(caught.exception.index, 1)
        with self.assertRaises(InvalidOffer) as caught:
            Offer(("a", 12, 1), ("b", 12, 1), ("c", 12, 1), ("d", 12, 1))
        self.assertEqual(caught.exception.index, 3)


if __name__ == "__main__":
    unittest.main()
