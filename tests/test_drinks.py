"""Points 4, 5 and 6: drinks, trades and pieces left, rounds, credit, and how drinks repeat."""

import unittest

from emptiesback.errors import InvalidNumber
from emptiesback.offers import Offer
from plain import MANY, MOST, OFFERS, bought, drinks_table, is_period, orders, simulate, simulate_rounds

WRONG = [-1, MOST + 1, -MOST, 10 ** 5000, True, False]


class FewBottles(unittest.TestCase):
    def test_as_drunk_bottle_by_bottle_in_several_orders(self):
        for trades in OFFERS:
            offer = Offer(*trades)
            for bottles in [*range(40), 97, 150]:
                for choose in orders():
                    drinks, made, loose, _ = simulate(trades, bottles, choose)
                    self.assertEqual(offer(bottles), drinks, (trades, bottles))
                    self.assertEqual(offer.trades_made(bottles), made, (trades, bottles))
                    self.assertEqual(offer.left_over(bottles), loose, (trades, bottles))

    def test_rounds(self):
        for trades in OFFERS:
            for bottles in range(150):
                self.assertEqual(list(Offer(*trades).rounds(bottles)), simulate_rounds(trades, bottles))

    def test_no_bottles(self):
        for trades in OFFERS:
            offer = Offer(*trades)
            none = {kind: 0 for kind, _, _ in trades}
            self.assertEqual(offer(0), 0)
            self.assertEqual(list(offer.trades_made(0).items()), list(none.items()))
            self.assertEqual(list(offer.left_over(0).items()), list(none.items()))
            self.assertEqual(list(offer.rounds(0)), [])

    def test_keys_in_the_order_of_the_offer(self):
        for trades in OFFERS:
            offer = Offer(*trades)
            for bottles in [0, 1, 10, MOST]:
                self.assertEqual(tuple(offer.trades_made(bottles)), offer.kinds)
                self.assertEqual(tuple(offer.left_over(bottles)), offer.kinds)


class ManyBottles(unittest.TestCase):
    def test_drinks_trades_and_pieces_left_agree(self):
        for trades in OFFERS:
            offer = Offer(*trades)
            for bottles in MANY:
                drinks, made, loose = offer(bottles), offer.trades_made(bottles), offer.left_over(bottles)
                self.assertEqual(drinks, bottles + sum(made.values()))
                for kind, left, needed in trades:
                    self.assertEqual(left * drinks, needed * made[kind] + loose[kind])
                    self.assertTrue(0 <= loose[kind] < needed)

    def test_drinks_end_as_soon_as_no_bottle_is_there(self):
        for trades in OFFERS:
            offer = Offer(*trades)
            for bottles in MANY:
                drinks = offer(bottles)
                # Fewer drinks than these, back to one whole period, always leave a bottle.
                for before in range(drinks - offer.period[1], drinks):
                    self.assertGreater(bottles + bought(trades, before), before)
                self.assertEqual(bottles + bought(trades, drinks), drinks)

    def test_rounds_drink_all_and_trade_all(self):
        for trades in OFFERS:
            offer = Offer(*trades)
            for bottles in MANY:
                rounds = list(offer.rounds(bottles))
                self.assertEqual(rounds[0], bottles)
                self.assertEqual(sum(rounds), offer(bottles))
                loose = {kind: 0 for kind, _, _ in trades}
                for drunk, following in zip(rounds, [*rounds[1:], 0]):
                    full = 0
                    for kind, left, needed in trades:
                        count, loose[kind] = divmod(loose[kind] + left * drunk, needed)
                        full += count
                    self.assertEqual(full, following)
                self.assertEqual(loose, offer.left_over(bottles))

    def test_known_numbers(self):
        offer = Offer(("empty", 1, 2))
        self.assertEqual([offer(1), offer(2), offer(MOST)], [1, 3, 2 * MOST - 1])
        self.assertEqual(offer.trades_made(MOST), {"empty": MOST - 1})
        self.assertEqual(offer.left_over(MOST), {"empty": 1})
        self.assertEqual(Offer(("empty", 0, 1))(MOST), MOST)
        self.assertEqual(list(Offer(("empty", 0, 1)).rounds(MOST)), [MOST])


class WrongNumbers(unittest.TestCase):
    def test_number_of_bottles(self):
        for trades in OFFERS[:4]:
            offer = Offer(*trades)
            for bottles in WRONG:
                for method in [offer, offer.trades_made, offer.left_over, offer.credit]:
                    with self.assertRaises(InvalidNumber):
                        method(bottles)
                with self.assertRaises(InvalidNumber):
                    list(offer.rounds(bottles))

    def test_rounds_raise_when_the_iteration_begins(self):
        for bottles in WRONG:
            rounds = Offer.simple(3).rounds(bottles)
            with self.assertRaises(InvalidNumber):
                next(rounds)

    def test_first_and_last_allowed_number(self):
        offer = Offer.simple(3)
        for bottles in [0, MOST]:
            self.assertEqual(offer(bottles), sum(offer.rounds(bottles)))
            self.assertGreaterEqual(offer.credit(bottles), offer(bottles))


class Credit(unittest.TestCase):
    def test_few_bottles(self):
        for trades in OFFERS:
            offer = Offer(*trades)
            for bottles in range(60):
                # With ten times the bottles and more drinks, the pieces never suffice.
                fitting = [d for d in range(10 * bottles + 60) if d <= bottles + bought(trades, d)]
                self.assertEqual(offer.credit(bottles), max(fitting), (trades, bottles))

    def test_many_bottles(self):
        for trades in OFFERS:
            offer = Offer(*trades)
            for bottles in MANY:
                drinks = offer.credit(bottles)
                self.assertEqual(bottles + bought(trades, drinks), drinks)
                for more in range(drinks + 1, drinks + offer.period[1] + 1):
                    self.assertLess(bottles + bought(trades, more), more)

    def test_known_numbers(self):
        self.assertEqual([Offer.simple(2).credit(bottles) for bottles in range(4)], [0, 2, 4, 6])
        self.assertEqual(Offer.simple(2).credit(MOST), 2 * MOST)
        self.assertEqual(Offer(("empty", 0, 1)).credit(MOST), MOST)


class Repeating(unittest.TestCase):
    def test_period(self):
        for trades in OFFERS:
            bottles, drinks = Offer(*trades).period
            self.assertIs(type(Offer(*trades).period), tuple)
            self.assertEqual(drinks, next(d for d in range(1, 30000) if is_period(trades, d)))
            self.assertEqual(bottles, drinks - bought(trades, drinks))

    def test_known_periods(self):
        self.assertEqual(Offer(("a", 0, 12)).period, (1, 1))
        self.assertEqual(Offer(("a", 0, 12)).steady_from, 0)
        self.assertEqual(Offer(("a", 1, 12)).period, (11, 12))
        self.assertEqual(Offer(("a", 8, 12)).period, (1, 3))
        self.assertEqual(Offer(("a", 2, 9), ("b", 3, 10), ("c", 3, 11)).period, (203, 990))

    def test_drinks_repeat_from_there_and_not_before(self):
        for trades in OFFERS:
            offer = Offer(*trades)
            bottles, drinks = offer.period
            table = drinks_table(trades, 3000)
            wrong = [b for b in range(3000 - bottles) if table[b + bottles] != table[b] + drinks]
            self.assertEqual(offer.steady_from, max(wrong, default=-1) + 1, trades)

    def test_drinks_repeat_for_many_bottles(self):
        for trades in OFFERS:
            offer = Offer(*trades)
            bottles, drinks = offer.period
            for before in [offer.steady_from, *MANY[:-2], MOST - bottles]:
                self.assertEqual(offer(before + bottles), offer(before) + drinks)
            times = (MOST - offer.steady_from) // bottles
            self.assertEqual(offer(offer.steady_from + times * bottles), offer(offer.steady_from) + times * drinks)


if __name__ == "__main__":
    unittest.main()
