"""Point 14: shops, day by day."""

import inspect
import random
import unittest

from emptiesback.errors import InvalidNumber, UnknownKind
from emptiesback.offers import Offer
from emptiesback.shops import ChosenShop, DayShop, LimitedShop, Shop, last_day
from emptiesback.stocks import Stock
from plain import MANY, MOST, OFFERS, bought, simulate_days

WRONG = [-1, MOST + 1, -MOST, 10 ** 5000, True, False]
OFFER = Offer(("empty", 1, 3), ("cap", 1, 4))
DAYS_BEFORE_ALL_IS_DRUNK = 80


def always(day):
    return True


def any_kind(kind, given):
    return True


def sort_of(shop, chance, offer):
    """Return a shop, how long it may be closed, and what it may give and when, as plain functions."""
    if shop == "limited":
        most = chance.choice([0, 1, 2, 3, 5, 10, 20, 1000])
        return LimitedShop(offer, most), 1, lambda kind, given: given < most, always
    if shop == "chosen":
        kinds = chance.choices(offer.kinds, k=chance.randint(0, 3))
        return ChosenShop(offer, *kinds), 1, lambda kind, given: kind in kinds, always
    if shop == "day":
        length = chance.choice([1, 1, 2, 3, 5, 7])
        open_on = chance.choices(range(length), k=chance.randint(0, 4))
        return DayShop(offer, length, *open_on), length, any_kind, lambda day: day % length in open_on
    return Shop(offer), 1, any_kind, always


def random_stock(chance, offer):
    kinds = [*offer.kinds, "rag"]
    pieces = {kind: chance.choice([0, 1, 5, 30]) for kind in chance.sample(kinds, chance.randint(0, len(kinds)))}
    return Stock(chance.choice([0, 0, 1, 2, 9, 40]), **pieces)


class DayByDay(unittest.TestCase):
    def test_as_drunk_and_traded_one_by_one(self):
        chance = random.Random(19)
        for trades in OFFERS:
            offer = Offer(*trades)
            for sort in ["shop", "limited", "chosen", "day"] * 8:
                shop, length, may_give, is_open = sort_of(sort, chance, offer)
                stock, start = random_stock(chance, offer), chance.choice([0, 1, 2, 3, 4, 5, 6, 100, MOST])
                for first in [start, 0]:
                    count = DAYS_BEFORE_ALL_IS_DRUNK * length
                    days = simulate_days(trades, stock.filled, stock.loose, first, count, may_give, is_open)
                    self.assertEqual(list(shop.days(stock, first)), days, (trades, sort))
                    self.assertEqual(last_day(shop, stock, first), days[-1][0] if days else None)
                self.assertEqual(shop(stock), sum(drunk for _, drunk, _ in days))

    def test_nothing_at_all(self):
        for shop in [Shop(OFFER), LimitedShop(OFFER, 9), ChosenShop(OFFER, "cap"), DayShop(OFFER, 7, 0)]:
            for stock in [Stock(), Stock(0, empty=2, cap=3, rag=MOST)]:
                for start in [0, 5, MOST]:
                    self.assertEqual(list(shop.days(stock, start)), [])
                    self.assertIsNone(last_day(shop, stock, start))
                self.assertEqual(shop(stock), 0)

    def test_what_is_yielded(self):
        days = list(Shop(OFFER).days(Stock(10), 5))
        self.assertEqual(days, [(5, 10, 5), (6, 5, 3), (7, 3, 2), (8, 2, 1), (9, 1, 1), (10, 1, 0)])
        self.assertTrue(all(type(day) is tuple for day in days))
        generator = Shop(OFFER).days(Stock(10), 5)
        self.assertTrue(inspect.isgenerator(generator))
        self.assertEqual([next(generator), next(generator)], days[:2])

    def test_pieces_without_bottles(self):
        self.assertEqual(list(Shop(OFFER).days(Stock(0, cap=9), 3)), [(3, 0, 2), (4, 2, 0)])
        self.assertEqual(list(DayShop(OFFER, 7, 6).days(Stock(0, cap=9), 3)), [(6, 0, 2), (7, 2, 0)])
        self.assertEqual(list(LimitedShop(OFFER, 1).days(Stock(0, cap=9), 3)), [(3, 0, 1), (4, 1, 0)])
        self.assertEqual(list(ChosenShop(OFFER, "empty").days(Stock(0, cap=9), 3)), [])

    def test_last_day(self):
        self.assertEqual(last_day(Shop(OFFER), Stock(10), 5), 10)
        self.assertEqual(last_day(Shop(OFFER), Stock(1), 5), 5)
        self.assertEqual(last_day(Shop(OFFER), Stock(1), 0), 0)
        self.assertEqual(last_day(Shop(OFFER), Stock(0, cap=4), MOST), MOST + 1)
        self.assertEqual(last_day(DayShop(OFFER, 28, 27), Stock(0, cap=4), 0), 28)

    def test_two_generators_at_once(self):
        for shop in [Shop(OFFER), LimitedShop(OFFER, 4), ChosenShop(OFFER, "cap"), DayShop(OFFER, 2, 1)]:
            alone = list(shop.days(Stock(20), 3))
            pairs = list(zip(shop.days(Stock(20), 3), shop.days(Stock(20), 3)))
            self.assertEqual(pairs, [(day, day) for day in alone])
            self.assertEqual([shop(Stock(20)), shop(Stock(20))], [shop(Stock(20))] * 2)


class Family(unittest.TestCase):
    SHOPS = [Shop(OFFER), LimitedShop(OFFER, 5), ChosenShop(OFFER, "cap"), DayShop(OFFER, 7, 0)]

    def test_all_others_are_subclasses(self):
        for shop in self.SHOPS:
            self.assertIsInstance(shop, Shop)
        for one in [LimitedShop, ChosenShop, DayShop]:
            self.assertTrue(issubclass(one, Shop))
            for other in [LimitedShop, ChosenShop, DayShop]:
                self.assertEqual(issubclass(one, other), one is other)

    def test_class_values(self):
        kinds = ["shop", "limited", "chosen", "day"]
        self.assertEqual([shop.KIND for shop in self.SHOPS], kinds)
        self.assertEqual([sort.KIND for sort in [Shop, LimitedShop, ChosenShop, DayShop]], kinds)
        for sort in [Shop, LimitedShop, ChosenShop, DayShop]:
            self.assertIn("KIND", vars(sort))

    def test_terms(self):
        for shop in self.SHOPS:
            self.assertIs(shop.terms, OFFER)


class Plain(unittest.TestCase):
    def test_the_drinks_of_the_stock(self):
        chance = random.Random(20)
        for trades in OFFERS:
            offer = Offer(*trades)
            for full in [0, 1, 5, *MANY]:
                pieces = {kind: chance.choice([0, 1, 9, *MANY]) for kind in offer.kinds}
                stock = Stock(full, rag=3, **pieces)
                days = list(Shop(offer).days(stock, 0))
                self.assertEqual(Shop(offer)(stock), stock(offer))
                self.assertEqual(sum(drunk for _, drunk, _ in days), stock(offer))
                self.assertEqual(sum(given for _, _, given in days), stock(offer) - full)
                self.assertEqual([day for day, _, _ in days], list(range(len(days))))

    def test_the_rounds_of_the_offer(self):
        for trades in OFFERS:
            offer = Offer(*trades)
            for bottles in [0, 1, 5, 50, *MANY]:
                rounds = list(offer.rounds(bottles))
                days = list(zip(range(7, 7 + len(rounds)), rounds, [*rounds[1:], 0]))
                self.assertEqual(list(Shop(offer).days(Stock(bottles), 7)), days)

    def test_all_shops_that_do_not_refuse_anything(self):
        for trades in OFFERS:
            offer = Offer(*trades)
            for stock in [Stock(9), Stock(3, rag=5, **{offer.kinds[-1]: 40}), Stock(10 ** 16)]:
                days = list(Shop(offer).days(stock, 4))
                for shop in [ChosenShop(offer, *offer.kinds), ChosenShop(offer, *offer.kinds, *offer.kinds),
                             LimitedShop(offer, stock(offer)), DayShop(offer, 1, 0), DayShop(offer, 28, *range(28)),
                             DayShop(offer, 2, 1, 0, 1)]:
                    self.assertEqual(list(shop.days(stock, 4)), days)


class Limited(unittest.TestCase):
    def test_at_most_so_many_bottles_in_all(self):
        for trades in OFFERS:
            offer = Offer(*trades)
            for most in [0, 1, 2, 5, 1000, 10 ** 17 + 3, MOST]:
                for stock in [Stock(0, rag=1), Stock(7), Stock(40), Stock(MOST), Stock(MOST, **{offer.kinds[0]: 9})]:
                    given = min(most, stock(offer) - stock.filled)
                    shop = LimitedShop(offer, most)
                    self.assertEqual(sum(day[2] for day in shop.days(stock, 0)), given)
                    self.assertEqual(shop(stock), stock.filled + given)

    def test_less_than_the_pieces_of_a_day_suffice_for(self):
        offer = Offer(("b", 1, 3), ("a", 1, 4))
        self.assertEqual(list(LimitedShop(offer, 1).days(Stock(8), 0)), [(0, 8, 1), (1, 1, 0)])
        self.assertEqual(list(LimitedShop(offer, 3).days(Stock(8), 0)), [(0, 8, 3), (1, 3, 0)])
        self.assertEqual(list(LimitedShop(offer, 4).days(Stock(8), 0)), [(0, 8, 4), (1, 4, 0)])
        self.assertEqual(list(LimitedShop(offer, 5).days(Stock(8), 0)), [(0, 8, 4), (1, 4, 1), (2, 1, 0)])

    def test_0_bottles(self):
        for full in [0, 1, 9, MOST]:
            days = [(3, full, 0)] if full else []
            self.assertEqual(list(LimitedShop(OFFER, 0).days(Stock(full, cap=MOST), 3)), days)
            self.assertEqual(LimitedShop(OFFER, 0)(Stock(full, cap=MOST)), full)

    def test_each_stock_is_a_new_one(self):
        shop = LimitedShop(OFFER, 2)
        self.assertEqual([shop(Stock(10)), shop(Stock(10)), shop(Stock(10))], [12, 12, 12])

    def test_wrong_numbers(self):
        for most in WRONG:
            with self.assertRaises(InvalidNumber):
                LimitedShop(OFFER, most)


class Chosen(unittest.TestCase):
    def test_only_pieces_of_the_kinds(self):
        for trades in OFFERS:
            if len(trades) == 1:
                continue
            offer = Offer(*trades)
            for kind, left, needed in trades:
                stock = Stock(30, rag=9, **{kind: 50 for kind in offer.kinds})
                only = Offer((kind, left, needed))
                for shop in [ChosenShop(offer, kind), ChosenShop(offer, kind, kind)]:
                    self.assertEqual(list(shop.days(stock, 2)), list(Shop(only).days(stock, 2)))
                    self.assertEqual(shop(Stock(MOST)), only(MOST))
                others = [other for other in offer.kinds if other != kind]
                self.assertEqual(ChosenShop(offer, *others)(stock), stock(offer - kind))
                self.assertEqual(ChosenShop(offer, *others[::-1], *others)(stock), stock(offer - kind))

    def test_no_kinds(self):
        for full in [0, 1, 9, MOST]:
            shop, stock = ChosenShop(OFFER), Stock(full, cap=MOST)
            self.assertEqual(list(shop.days(stock, 3)), [(3, full, 0)] if full else [])
            self.assertEqual(shop(stock), full)

    def test_a_kind_without_a_trade(self):
        for kind in ["rag", "full", "drink", "", "Cap"]:
            for kinds in [[kind], ["cap", kind], [kind, "cap"], ["cap", "empty", kind]]:
                with self.assertRaises(UnknownKind):
                    ChosenShop(OFFER, *kinds)


class OpenDays(unittest.TestCase):
    def test_only_on_some_days(self):
        shop = DayShop(OFFER, 7, 0, 3)
        self.assertEqual(list(shop.days(Stock(10), 0)),
                         [(0, 10, 5), (1, 5, 0), (3, 0, 3), (4, 3, 0), (7, 0, 2), (8, 2, 0), (10, 0, 1), (11, 1, 0),
                          (14, 0, 1), (15, 1, 0)])
        self.assertEqual(list(shop.days(Stock(10), MOST))[:3],
                         [(MOST, 10, 0), (MOST + 2, 0, 5), (MOST + 3, 5, 0)])
        self.assertEqual((MOST + 2) % 7, 3)

    def test_never_open(self):
        for length in [1, 7, 28]:
            for full in [0, 1, 9, MOST]:
                shop, stock = DayShop(OFFER, length), Stock(full, cap=MOST)
                self.assertEqual(list(shop.days(stock, 3)), [(3, full, 0)] if full else [])
                self.assertEqual(shop(stock), full)
                self.assertEqual(last_day(shop, stock, 3), 3 if full else None)

    def test_the_drinks_do_not_depend_on_the_days(self):
        for trades in OFFERS:
            offer = Offer(*trades)
            for stock in [Stock(9), Stock(MOST, **{offer.kinds[0]: 77})]:
                for shop in [DayShop(offer, 28, 27), DayShop(offer, 28, 0), DayShop(offer, 7, 2, 5, 2)]:
                    self.assertEqual(shop(stock), stock(offer))
                    for start in [0, 6, 10 ** 9 + 1, MOST - 1, MOST]:
                        days = list(shop.days(stock, start))
                        self.assertEqual(sum(drunk for _, drunk, _ in days), stock(offer))
                        self.assertEqual(days[0][:2], (start, stock.filled))
                        self.assertEqual(days[-1][0], last_day(shop, stock, start))

    def test_a_number_given_twice(self):
        for numbers in [(0,), (6, 2), (1, 2, 3)]:
            once, twice = DayShop(OFFER, 7, *numbers), DayShop(OFFER, 7, *numbers, *numbers)
            self.assertEqual(list(once.days(Stock(99), 4)), list(twice.days(Stock(99), 4)))

    def test_first_and_last_allowed_numbers(self):
        self.assertEqual(list(DayShop(OFFER, 1, 0).days(Stock(4), 9)), list(Shop(OFFER).days(Stock(4), 9)))
        self.assertEqual(list(DayShop(OFFER, 28, 27).days(Stock(3), 0)), [(0, 3, 0), (27, 0, 1), (28, 1, 0), (55, 0, 1),
                                                                          (56, 1, 0)])
        self.assertEqual(list(DayShop(OFFER, 28, 0).days(Stock(3), 1)), [(1, 3, 0), (28, 0, 1), (29, 1, 0), (56, 0, 1),
                                                                         (57, 1, 0)])

    def test_wrong_numbers(self):
        for length in [0, -1, 29, 10 ** 5000, True, False]:
            for numbers in [[], [0]]:
                with self.assertRaises(InvalidNumber):
                    DayShop(OFFER, length, *numbers)
        for length, number in [(1, 1), (7, 7), (28, 28), (7, -1), (7, 10 ** 5000), (7, True), (7, False)]:
            for numbers in [[number], [0, number], [number, 0]]:
                with self.assertRaises(InvalidNumber):
                    DayShop(OFFER, length, *numbers)


class Starts(unittest.TestCase):
    def test_wrong_days_to_start_at(self):
        for start in WRONG:
            for shop in Family.SHOPS:
                for stock in [Stock(), Stock(9)]:
                    generator = shop.days(stock, start)
                    self.assertTrue(inspect.isgenerator(generator))
                    with self.assertRaises(InvalidNumber):
                        next(generator)
                    with self.assertRaises(InvalidNumber):
                        last_day(shop, stock, start)

    def test_the_days_are_moved_with_the_start(self):
        for shop in Family.SHOPS:
            length = 7
            first = list(shop.days(Stock(30), 3))
            moved = list(shop.days(Stock(30), 3 + 1000 * length))
            self.assertEqual([(day + 1000 * length, drunk, given) for day, drunk, given in first], moved)

    def test_a_kind_called_full(self):
        offer = Offer(("full", 1, 3))
        self.assertEqual(list(Shop(offer).days(Stock(3), 0)), [(0, 3, 1), (1, 1, 0)])
        self.assertEqual(list(ChosenShop(offer, "full").days(Stock(3), 0)), [(0, 3, 1), (1, 1, 0)])

    def test_bottles_are_drunk_before_pieces_are_traded(self):
        for trades in OFFERS:
            offer = Offer(*trades)
            for full in [1, 50, MOST]:
                first = next(Shop(offer).days(Stock(full), 0))
                self.assertEqual(first, (0, full, bought(trades, full)))


if __name__ == "__main__":
    unittest.main()
