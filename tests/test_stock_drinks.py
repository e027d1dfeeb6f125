"""Point 13: the drinks that stocks give, what is left of them, and what more pieces give."""

import random
import unittest

from emptiesback.errors import InvalidKind, InvalidNumber, UnknownKind
from emptiesback.offers import Offer
from emptiesback.stocks import Stock, gain_of, pieces_for, rest_of
from plain import MANY, MOST, OFFERS, bought, orders, simulate

WRONG = [-1, MOST + 1, -MOST, 10 ** 5000, True, False]


def random_pieces(trades, chance, most=40):
    """Return pieces of some kinds of the trades, and of some others."""
    kinds = [kind for kind, _, _ in trades] + ["rag", "zzz"]
    return {kind: chance.randint(0, most) for kind in chance.sample(kinds, chance.randint(0, len(kinds)))}


def left_of(trades, pieces, loose):
    """Return the pieces in the end: those of the trades, and all others as they were."""
    others = {kind: count for kind, count in pieces.items() if kind not in [kind for kind, _, _ in trades]}
    return {kind: count for kind, count in {**others, **loose}.items() if count}


class Few(unittest.TestCase):
    def test_as_drunk_and_traded_one_by_one_in_several_orders(self):
        chance = random.Random(13)
        for trades in OFFERS:
            offer = Offer(*trades)
            for full in [0, 1, 2, 3, 7, 20, 61]:
                for _ in range(4):
                    pieces = random_pieces(trades, chance)
                    stock = Stock(full, **pieces)
                    for choose in orders():
                        drinks, _, loose, _ = simulate(trades, full, choose, pieces)
                        self.assertEqual(stock(offer), drinks, (trades, full, pieces))
                        rest = rest_of(offer, stock)
                        self.assertEqual([rest.filled, rest.loose], [0, left_of(trades, pieces, loose)])
                    self.assertEqual(list(rest.loose), sorted(rest.loose))

    def test_only_bottles_are_as_for_the_offer(self):
        for trades in OFFERS:
            offer = Offer(*trades)
            for bottles in [*range(40), *MANY]:
                self.assertEqual(Stock(bottles)(offer), offer(bottles))
                left = {kind: count for kind, count in offer.left_over(bottles).items() if count}
                self.assertEqual(rest_of(offer, Stock(bottles)).loose, left)

    def test_only_pieces(self):
        offer = Offer(("empty", 1, 3), ("cap", 1, 4))
        self.assertEqual([Stock(0, cap=count)(offer) for count in [0, 3, 4, 6, 7, 8, 12]], [0, 0, 1, 1, 2, 2, 5])
        self.assertEqual(rest_of(offer, Stock(0, cap=3)), Stock(0, cap=3))
        self.assertEqual(rest_of(offer, Stock(0, cap=4)), Stock(0, cap=1, empty=1))

    def test_pieces_that_no_bottle_leaves_are_traded(self):
        offer = Offer(("voucher", 0, 5), ("empty", 1, 3), ("token", 0, 1))
        self.assertEqual(Stock(1, voucher=14)(offer), 4)
        self.assertEqual(rest_of(offer, Stock(1, voucher=14)), Stock(0, voucher=4, empty=1))
        self.assertEqual(Stock(0, token=MOST)(Offer(("token", 0, 1))), MOST)
        self.assertEqual(rest_of(Offer(("token", 0, 1)), Stock(0, token=MOST)), Stock())

    def test_nothing(self):
        for trades in OFFERS:
            self.assertEqual(Stock()(Offer(*trades)), 0)
            self.assertEqual(rest_of(Offer(*trades), Stock()), Stock())

    def test_pieces_of_other_kinds_stay_as_they_are(self):
        for trades in OFFERS:
            offer = Offer(*trades)
            for full in [0, 5, MOST]:
                self.assertEqual(Stock(full, rag=MOST, zzz=3)(offer), Stock(full)(offer))
                rest = rest_of(offer, Stock(full, rag=MOST, zzz=3))
                self.assertEqual(rest, rest_of(offer, Stock(full)) + Stock(0, rag=MOST, zzz=3))

    def test_it_changes_nothing(self):
        offer, stock = Offer.simple(3), Stock(10, empty=2, rag=1)
        stock(offer), rest_of(offer, stock), gain_of(offer, stock, stock), pieces_for(offer, stock, "empty", 99)
        self.assertEqual([stock.filled, stock.loose, offer.trades], [10, {"empty": 2, "rag": 1}, (("empty", 1, 3),)])


class Many(unittest.TestCase):
    def test_drinks_and_rest_agree(self):
        chance = random.Random(14)
        for trades in OFFERS:
            offer = Offer(*trades)
            for full in [0, 1, *MANY]:
                pieces = {kind: chance.choice([0, 1, *MANY]) for kind, _, _ in trades}
                stock = Stock(full, **pieces)
                drinks, rest = stock(offer), rest_of(offer, stock)
                self.assertEqual(full + bought(trades, drinks, pieces), drinks)
                # Fewer drinks than these, back to one whole period, always leave a bottle.
                for before in range(max(0, drinks - offer.period[1]), drinks):
                    self.assertGreater(full + bought(trades, before, pieces), before)
                for kind, left, needed in trades:
                    self.assertEqual(rest[kind], (pieces[kind] + left * drinks) % needed)
                self.assertEqual(rest_of(offer, rest), rest)
                self.assertEqual([rest.filled, rest(offer)], [0, 0])

    def test_known_numbers(self):
        self.assertEqual(Stock(MOST, empty=MOST)(Offer.simple(2)), 3 * MOST - 1)
        offer = Offer(("a", 0, 1), ("b", 0, 1), ("c", 9, 10))
        self.assertEqual(Stock(MOST, a=MOST, b=MOST, c=MOST)(offer), 31 * MOST - 9)
        self.assertEqual(rest_of(offer, Stock(MOST, a=MOST, b=MOST, c=MOST)), Stock(0, c=9))


class Gain(unittest.TestCase):
    def test_together_and_each_by_itself(self):
        chance = random.Random(15)
        for trades in OFFERS:
            offer = Offer(*trades)
            for many in [0, 1, 2, 2, 3, 5]:
                stocks = [Stock(chance.randint(0, 9), **random_pieces(trades, chance, 9)) for _ in range(many)]
                together = Stock()
                for stock in stocks:
                    together += stock
                drinks = [simulate(trades, stock.filled, min, stock.loose)[0] for stock in [together, *stocks]]
                self.assertEqual(gain_of(offer, *stocks), drinks[0] - sum(drinks[1:]))

    def test_none_or_one(self):
        for trades in OFFERS:
            offer = Offer(*trades)
            self.assertEqual(gain_of(offer), 0)
            for stock in [Stock(), Stock(7), Stock(MOST, rag=MOST, empty=MOST)]:
                self.assertEqual([gain_of(offer, stock), gain_of(offer, stock, Stock())], [0, 0])

    def test_as_pooled_bottles(self):
        for trades in OFFERS:
            offer = Offer(*trades)
            for counts in [(1, 1), (2, 3), (5, 0, 0, 19, 2), (MOST - 1, 1), (MOST // 2, MOST // 2)]:
                self.assertEqual(gain_of(offer, *[Stock(count) for count in counts]), offer.pooled(*counts))

    def test_more_than_the_limit_of_anything(self):
        offer = Offer.simple(3)
        half = Stock(MOST // 2, empty=MOST // 2, rag=MOST // 2)
        self.assertEqual(gain_of(offer, half, half), (half * 2)(offer) - 2 * half(offer))
        for more in [Stock(1), Stock(0, empty=1), Stock(0, rag=1)]:
            for stocks in [(half, half, more), (more, half, half), (half, more, half)]:
                with self.assertRaises(InvalidNumber):
                    gain_of(offer, *stocks)
        with self.assertRaises(InvalidNumber):
            gain_of(offer, Stock(0, rag=MOST), Stock(0, rag=MOST))


class PiecesFor(unittest.TestCase):
    def assert_fewest(self, trades, full, pieces, kind, drinks):
        """Compare the further pieces with the plain rule for the drinks of a stock."""
        offer = Offer(*trades)
        many = pieces_for(offer, Stock(full, **pieces), kind, drinks)
        told = (trades, full, pieces, kind, drinks)
        self.assertTrue(self.gives(trades, full, {**pieces, kind: pieces.get(kind, 0) + many}, drinks), told)
        if many > 0:
            self.assertFalse(self.gives(trades, full, {**pieces, kind: pieces.get(kind, 0) + many - 1}, drinks), told)

    @staticmethod
    def gives(trades, full, pieces, drinks):
        """Return whether, for a whole period before the drinks, a bottle is always there."""
        period = Offer(*trades).period[1]
        return all(full + bought(trades, d, pieces) > d for d in range(max(0, drinks - period), drinks))

    def test_few_one_by_one(self):
        chance = random.Random(16)
        for trades in OFFERS:
            offer = Offer(*trades)
            for _ in range(12):
                full, pieces = chance.randint(0, 8), random_pieces(trades, chance, 9)
                kind = chance.choice(offer.kinds)
                drinks = chance.randint(0, 30)
                further = 0
                while simulate(trades, full, min, {**pieces, kind: pieces.get(kind, 0) + further})[0] < drinks:
                    further += 1
                told = pieces_for(offer, Stock(full, **pieces), kind, drinks)
                self.assertEqual(told, further, (trades, full, pieces, kind, drinks))

    def test_many_with_one_less_there_are_not_enough(self):
        chance = random.Random(17)
        for trades in OFFERS:
            for _ in range(12):
                full = chance.choice([0, 1, *MANY])
                pieces = {kind: chance.choice([0, 1, *MANY]) for kind, _, _ in trades}
                kind = chance.choice(trades)[0]
                self.assert_fewest(trades, full, pieces, kind, chance.choice([full, *MANY]))

    def test_a_stock_with_so_many_more(self):
        chance = random.Random(18)
        for trades in OFFERS:
            offer = Offer(*trades)
            for _ in range(10):
                stock = Stock(chance.choice([0, 5, 10 ** 15]), rag=7, **{chance.choice(offer.kinds): 10 ** 14})
                kind, drinks = chance.choice(offer.kinds), chance.choice([9, 10 ** 12 + 7, 3 * 10 ** 16 + 1])
                further = pieces_for(offer, stock, kind, drinks)
                self.assertGreaterEqual((stock + Stock(0, **{kind: further}))(offer), drinks)
                if further:
                    self.assertLess((stock + Stock(0, **{kind: further - 1}))(offer), drinks)
                else:
                    self.assertGreaterEqual(stock(offer), drinks)

    def test_none_are_needed(self):
        for trades in OFFERS:
            offer = Offer(*trades)
            for full in [0, 1, 7, MOST // 10]:
                for kind in offer.kinds:
                    self.assertEqual(pieces_for(offer, Stock(full), kind, 0), 0)
                    self.assertEqual(pieces_for(offer, Stock(full), kind, offer(full)), 0)
                    self.assertGreater(pieces_for(offer, Stock(full), kind, offer(full) + 1), 0)

    def test_known_numbers(self):
        self.assertEqual(pieces_for(Offer(("a", 0, 12)), Stock(), "a", MOST), 12 * MOST)
        self.assertEqual(pieces_for(Offer(("a", 0, 12)), Stock(0, a=5), "a", MOST), 12 * MOST - 5)
        self.assertEqual(pieces_for(Offer(("a", 0, 12)), Stock(MOST - 1, a=MOST), "a", MOST), 0)
        self.assertEqual(pieces_for(Offer.simple(2), Stock(), "empty", MOST), MOST + 1)
        # A piece more may not be enough to buy the bottle that is lacking.
        self.assertEqual([pieces_for(Offer.simple(3), Stock(2), "empty", drinks) for drinks in range(6)],
                         [0, 0, 0, 1, 3, 5])

    def test_numbers_of_drinks(self):
        for drinks in WRONG:
            with self.assertRaises(InvalidNumber):
                pieces_for(Offer.simple(3), Stock(1), "empty", drinks)

    def test_a_kind_without_a_trade_is_told_first(self):
        for kind in ["rag", "full", "drink", "", "Empty"]:
            for drinks in [0, 5, *WRONG]:
                with self.assertRaises(UnknownKind):
                    pieces_for(Offer.simple(3), Stock(1, rag=9), kind, drinks)


class AKindCalledFull(unittest.TestCase):
    """An offer may have pieces of the kind "full", a stock cannot: for it, these are its bottles."""

    OFFER = Offer(("full", 1, 3))

    def test_full_bottles_are_no_such_pieces(self):
        for bottles in [0, 1, 2, 3, 9, 10, MOST]:
            self.assertEqual(Stock(bottles)(self.OFFER), self.OFFER(bottles))
        self.assertEqual([pieces_for(self.OFFER, Stock(2), "full", drinks) for drinks in range(6)], [0, 0, 0, 1, 3, 5])
        self.assertEqual(gain_of(self.OFFER, Stock(1), Stock(1), Stock(1)), 1)

    def test_no_stock_can_be_left_with_them(self):
        self.assertEqual(rest_of(self.OFFER, Stock(0, rag=1)), Stock(0, rag=1))
        with self.assertRaises(InvalidKind) as caught:
            rest_of(self.OFFER, Stock(9))
        self.assertEqual(caught.exception.name, "full")


if __name__ == "__main__":
    unittest.main()
