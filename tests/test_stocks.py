"""Points 11 and 12: stocks, and their signs."""

import random
import unittest

from emptiesback.errors import InvalidKind, InvalidNumber, NotEnough
from emptiesback.stocks import Stock
from plain import MOST

WRONG = [-1, MOST + 1, -MOST, 10 ** 5000, True, False]
TIMES = 10 ** 9


def numbers_of(stock):
    """Return all numbers of a stock that are not 0."""
    numbers = {"full": stock.filled, **stock.loose}
    return {name: number for name, number in numbers.items() if number}


def made(numbers):
    return Stock(**numbers)


def random_numbers(chance):
    """Return some numbers of bottles and pieces, with small ones and 0 more often."""
    names = chance.sample(["full", "cap", "empty", "a", "zzz", "label"], chance.randint(0, 5))
    return {name: chance.choice([0, 0, 1, 2, 3, 10 ** 17]) for name in names}


class Making(unittest.TestCase):
    def test_bottles_and_pieces(self):
        stock = Stock(2, empty=3, cap=1)
        self.assertEqual([stock.filled, stock.loose], [2, {"cap": 1, "empty": 3}])
        self.assertIs(type(stock.loose), dict)
        self.assertEqual([Stock().filled, Stock().loose], [0, {}])
        self.assertEqual([Stock(full=4).filled, Stock(full=4).loose], [4, {}])
        self.assertEqual([Stock(cap=4, full=5).filled, Stock(cap=4, full=5).loose], [5, {"cap": 4}])

    def test_loose_pieces_in_ascending_order_of_their_kinds(self):
        stock = Stock(1, b=1, a=2, ab=3, zz=4, aa=5)
        self.assertEqual(list(stock.loose.items()), [("a", 2), ("aa", 5), ("ab", 3), ("b", 1), ("zz", 4)])

    def test_kinds_without_pieces_are_not_loose(self):
        self.assertEqual(Stock(1, cap=0, empty=2, label=0).loose, {"empty": 2})
        self.assertEqual(Stock(0, cap=0).loose, {})

    def test_first_and_last_allowed_numbers(self):
        for number in [0, 1, MOST - 1, MOST]:
            self.assertEqual(Stock(number).filled, number)
            self.assertEqual(Stock(0, cap=number)["cap"], number)

    def test_all_kinds_that_are_allowed(self):
        # A kind may have the name that methods give their own object, or that of a word of Python.
        for kind in ["a", "z", "abcdefgh", "zzzzzzzz", "drinks", "fullest", "ful", "self", "cls", "other", "pieces",
                     "offer", "keys", "in", "class", "kind", "stock", "times", "filled", "loose", "open", "input"]:
            stock = Stock(1, **{kind: 2})
            self.assertEqual([stock.filled, stock.loose, stock[kind], kind in stock], [1, {kind: 2}, 2, True])
            self.assertEqual((stock + stock - stock) * 3, Stock(3, **{kind: 6}))

    def test_wrong_numbers(self):
        for number in WRONG:
            for call in [lambda: Stock(number), lambda: Stock(full=number), lambda: Stock(0, cap=number),
                         lambda: Stock(1, a=2, cap=number, zz=3)]:
                with self.assertRaises(InvalidNumber):
                    call()

    def test_wrong_kinds(self):
        for kind in ["", "drink", "abcdefghi", "Cap", "CAP", "cap1", "a b", " cap", "cap ", "a_b", "_a",
                     "caf\u00e9", "\u0430", "cap\n", "`", "{", "3"]:
            for number in [0, 1, -1, True]:
                with self.assertRaises(InvalidKind) as caught:
                    Stock(0, **{kind: number})
                self.assertEqual(caught.exception.name, kind)

    def test_the_bottles_are_checked_first(self):
        for number in WRONG:
            with self.assertRaises(InvalidNumber):
                Stock(number, drink=1)
            with self.assertRaises(InvalidNumber):
                Stock(drink=1, full=number)

    def test_kinds_are_checked_in_ascending_order(self):
        for pieces, error, name in [
            ({"zz1": 1, "drink": 1, "aa1": 1}, InvalidKind, "aa1"),
            ({"zz1": 1, "drink": 1, "aa": 1}, InvalidKind, "drink"),
            ({"zz": -1, "drink": 1}, InvalidKind, "drink"),
            ({"b1": 1, "a": -1}, InvalidNumber, None),
            ({"a": -1, "b1": 1}, InvalidNumber, None),
            ({"a": 1, "b": -1, "c": 1, "c1": 1}, InvalidNumber, None),
            ({"b": -1, "A": 1}, InvalidKind, "A"),
            ({"A": -1, "a": 1}, InvalidKind, "A"),
            ({"a": -1, "": 1}, InvalidKind, ""),
            ({"a": MOST + 1, "drink": 1}, InvalidNumber, None),
            ({"e": MOST + 1, "drink": 1}, InvalidKind, "drink"),
        ]:
            with self.assertRaises(error) as caught:
                Stock(3, **pieces)
            self.assertEqual(getattr(caught.exception, "name", None), name)

    def test_stocks_never_change(self):
        pieces = {"cap": 1, "empty": 0}
        stock = Stock(2, **pieces)
        pieces["cap"] = 9
        stock.loose["cap"] = 9
        stock.loose.clear()
        stock + stock, stock - stock, stock * 2, stock * 0
        self.assertEqual([stock.filled, stock.loose, stock["cap"]], [2, {"cap": 1}, 1])


class Looking(unittest.TestCase):
    STOCK = Stock(5, cap=1, empty=MOST, label=0)

    def test_items(self):
        names = ["full", "cap", "empty", "label", "rag", "drink", "", "Not a kind"]
        self.assertEqual([self.STOCK[name] for name in names], [5, 1, MOST, 0, 0, 0, 0, 0])
        self.assertEqual(Stock()["full"], 0)

    def test_whether_there_is_any(self):
        for name in ["full", "cap", "empty"]:
            self.assertIs(name in self.STOCK, True)
        for name in ["label", "rag", "drink", "", "Not a kind"]:
            self.assertIs(name in self.STOCK, False)
            self.assertIs(name not in self.STOCK, True)
        self.assertIs("full" in Stock(0, cap=3), False)
        self.assertIs("full" in Stock(1), True)

    def test_whether_there_is_anything(self):
        for stock in [Stock(1), Stock(MOST), Stock(0, cap=1), Stock(1, cap=1), Stock(0, a=0, b=1)]:
            self.assertIs(bool(stock), True)
        for stock in [Stock(), Stock(0), Stock(0, cap=0), Stock(3) - Stock(3), Stock(3, cap=3) * 0]:
            self.assertIs(bool(stock), False)

    def test_nothing_to_iterate_over(self):
        # Else Python would ask for the items 0, 1, 2 .. for ever.
        with self.assertRaises(TypeError):
            list(self.STOCK)


class Comparing(unittest.TestCase):
    def test_equal_if_all_numbers_are(self):
        self.assertTrue(Stock(2, cap=1, empty=3) == Stock(2, empty=3, cap=1))
        self.assertTrue(Stock(2, cap=1, empty=0) == Stock(2, cap=1))
        self.assertTrue(Stock() == Stock(0, cap=0, empty=0))
        self.assertFalse(Stock(2, cap=1) != Stock(2, cap=1))
        for other in [Stock(1, cap=1), Stock(2, cap=2), Stock(2), Stock(2, cap=1, empty=1), Stock(2, empty=1)]:
            self.assertIs(Stock(2, cap=1) == other, False)
            self.assertIs(other == Stock(2, cap=1), False)
            self.assertIs(other != Stock(2, cap=1), True)

    def test_a_stock_is_nothing_else(self):
        for other in [0, None, "full", {}, {"cap": 1}, (1, {"cap": 1})]:
            self.assertIs(Stock(1, cap=1) == other, False)
            self.assertIs(Stock() != other, True)

    def test_no_number_greater(self):
        small, great = Stock(1, cap=2), Stock(2, cap=2, empty=1)
        self.assertIs(small <= great, True)
        self.assertIs(great >= small, True)
        self.assertIs(great <= small, False)
        self.assertIs(small >= great, False)

    def test_neither_is_within_the_other(self):
        for one, other in [(Stock(1), Stock(0, cap=1)), (Stock(0, cap=1), Stock(0, empty=1)),
                           (Stock(2, cap=1), Stock(1, cap=2)), (Stock(0, a=9, b=1), Stock(0, a=1, b=9))]:
            self.assertEqual([one <= other, other <= one, one >= other, other >= one], [False] * 4)

    def test_random_stocks(self):
        chance = random.Random(11)
        for _ in range(3000):
            ones, others = random_numbers(chance), random_numbers(chance)
            if chance.random() < 0.4:
                others = {name: number + chance.choice([0, 0, 1]) for name, number in ones.items()}
            one, other = made(ones), made(others)
            names = [*ones, *others]
            pairs = [(ones.get(name, 0), others.get(name, 0)) for name in names]
            self.assertIs(one == other, all(mine == yours for mine, yours in pairs))
            self.assertIs(one != other, any(mine != yours for mine, yours in pairs))
            self.assertIs(one <= other, all(mine <= yours for mine, yours in pairs))
            self.assertIs(one >= other, all(mine >= yours for mine, yours in pairs))


class Adding(unittest.TestCase):
    def test_what_both_have_together(self):
        both = Stock(2, cap=1) + Stock(1, cap=4, empty=2)
        self.assertIs(type(both), Stock)
        self.assertEqual(numbers_of(both), {"full": 3, "cap": 5, "empty": 2})
        self.assertEqual(list((Stock(0, b=1) + Stock(0, c=1, a=1)).loose), ["a", "b", "c"])
        self.assertEqual(Stock() + Stock(), Stock())

    def test_the_greatest_numbers(self):
        self.assertEqual(Stock(MOST) + Stock(0, cap=MOST), Stock(MOST, cap=MOST))
        self.assertEqual(Stock(MOST - 1, cap=1) + Stock(1, cap=MOST - 1), Stock(MOST, cap=MOST))
        for one, other in [(Stock(MOST), Stock(1)), (Stock(MOST, cap=1), Stock(MOST)),
                           (Stock(0, cap=MOST), Stock(0, cap=1)), (Stock(1, a=1, cap=1), Stock(1, a=1, cap=MOST))]:
            for first, second in [(one, other), (other, one)]:
                before = [numbers_of(first), numbers_of(second)]
                with self.assertRaises(InvalidNumber):
                    first + second
                self.assertEqual([numbers_of(first), numbers_of(second)], before)

    def test_random_stocks(self):
        chance = random.Random(12)
        for _ in range(1000):
            ones, others = random_numbers(chance), random_numbers(chance)
            sums = {name: ones.get(name, 0) + others.get(name, 0) for name in [*ones, *others]}
            both = made(ones) + made(others)
            self.assertEqual(numbers_of(both), {name: number for name, number in sums.items() if number})
            self.assertEqual(both, made(others) + made(ones))
            self.assertEqual(both - made(others), made(ones))
            self.assertTrue(both >= made(ones))
            self.assertEqual(list(both.loose), sorted(both.loose))


class Taking(unittest.TestCase):
    def test_what_is_left(self):
        left = Stock(5, cap=3, empty=2) - Stock(2, cap=3, empty=1)
        self.assertIs(type(left), Stock)
        self.assertEqual([left.filled, left.loose], [3, {"empty": 1}])
        self.assertEqual(Stock(5, cap=3) - Stock(5, cap=3), Stock())
        self.assertEqual(Stock(MOST, cap=MOST) - Stock(MOST, cap=1), Stock(0, cap=MOST - 1))

    def test_the_first_that_there_is_too_little_of(self):
        for one, other, name in [
            (Stock(1), Stock(2), "full"),
            (Stock(1), Stock(0, cap=1), "cap"),
            (Stock(1, cap=3), Stock(2, cap=4, a=1), "full"),
            (Stock(2, cap=3), Stock(2, cap=4, a=1), "a"),
            (Stock(2, cap=3, a=1), Stock(2, cap=4, a=1), "cap"),
            (Stock(2, cap=3, zz=9), Stock(2, zz=10, empty=1, cap=3), "empty"),
            (Stock(), Stock(0, b=1, a=1, c=1), "a"),
            (Stock(), Stock(0, ab=1, aa=1), "aa"),
            (Stock(), Stock(MOST, a=MOST), "full"),
        ]:
            before = [numbers_of(one), numbers_of(other)]
            with self.assertRaises(NotEnough) as caught:
                one - other
            self.assertEqual(caught.exception.name, name)
            self.assertEqual([numbers_of(one), numbers_of(other)], before)

    def test_random_stocks(self):
        chance = random.Random(13)
        for _ in range(2000):
            ones, others = random_numbers(chance), random_numbers(chance)
            names = ["full", *sorted(name for name in {*ones, *others} if name != "full")]
            lacking = [name for name in names if ones.get(name, 0) < others.get(name, 0)]
            if lacking:
                with self.assertRaises(NotEnough) as caught:
                    made(ones) - made(others)
                self.assertEqual(caught.exception.name, lacking[0])
            else:
                left = {name: ones.get(name, 0) - others.get(name, 0) for name in names}
                told = numbers_of(made(ones) - made(others))
                self.assertEqual(told, {name: number for name, number in left.items() if number})


class Times(unittest.TestCase):
    def test_so_many_equal_stocks(self):
        stock = Stock(2, cap=1, empty=5)
        self.assertEqual([stock * times for times in range(3)], [Stock(), stock, Stock(4, cap=2, empty=10)])
        self.assertIs(type(stock * 2), Stock)
        self.assertEqual(stock * 3, stock + stock + stock)
        self.assertEqual(numbers_of(stock * TIMES), {"full": 2 * TIMES, "cap": TIMES, "empty": 5 * TIMES})

    def test_the_greatest_numbers(self):
        self.assertEqual(Stock(TIMES, cap=TIMES) * TIMES, Stock(MOST, cap=MOST))
        self.assertEqual(Stock(MOST, cap=MOST) * 1, Stock(MOST, cap=MOST))
        self.assertEqual(Stock(MOST, cap=MOST) * 0, Stock())
        self.assertEqual(Stock() * TIMES, Stock())
        for stock, times in [(Stock(TIMES + 1), TIMES), (Stock(0, cap=TIMES + 1), TIMES), (Stock(MOST), 2),
                             (Stock(1, a=1, cap=MOST // 2 + 1), 2), (Stock(MOST, cap=MOST), TIMES)]:
            before = numbers_of(stock)
            with self.assertRaises(InvalidNumber):
                stock * times
            self.assertEqual(numbers_of(stock), before)

    def test_wrong_numbers(self):
        for stock in [Stock(), Stock(1, cap=1)]:
            for times in [-1, TIMES + 1, -TIMES, 10 ** 5000, True, False]:
                with self.assertRaises(InvalidNumber):
                    stock * times


if __name__ == "__main__":
    unittest.main()
