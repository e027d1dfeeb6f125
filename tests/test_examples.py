"""The examples of the interface, as they stand there."""

import unittest

EXAMPLES = r'''
>>> from emptiesback.offers import Offer
>>> offer = Offer(("empty", 1, 3), ("cap", 1, 4))
>>> [offer.trades, offer.kinds, offer.period, offer.steady_from]
[(('empty', 1, 3), ('cap', 1, 4)), ('empty', 'cap'), (5, 12), 2]

>>> from emptiesback.offers import Offer
>>> Offer(("empty", 1, 2), ("cap", 1, 2))
raises TooGenerous

>>> from emptiesback.offers import Offer
>>> offer = Offer(("empty", 1, 3), ("cap", 1, 4))
>>> [offer["cap"], (offer - "cap").trades, 7 in offer, 6 in offer, bool(offer)]
[(1, 4), (('empty', 1, 3),), True, False, True]

>>> from emptiesback.offers import Offer
>>> offer = Offer(("empty", 1, 3), ("cap", 1, 4))
>>> (offer + Offer(("label", 1, 10))).kinds
('empty', 'cap', 'label')

>>> from emptiesback.offers import Offer
>>> offer = Offer(("empty", 1, 3), ("cap", 1, 4))
>>> [Offer.simple(3) <= offer, offer <= Offer.simple(3), offer > Offer.simple(3), offer < offer]
[True, False, True, False]

>>> from emptiesback.offers import Offer
>>> Offer.simple(3)(9)
13

>>> from emptiesback.offers import Offer
>>> offer = Offer(("empty", 1, 3), ("cap", 1, 4))
>>> [offer(3), offer(10), offer(10 ** 18)]
[5, 22, 2399999999999999998]

>>> from emptiesback.offers import Offer
>>> offer = Offer(("empty", 1, 3), ("cap", 1, 4))
>>> offer(-1)
raises InvalidNumber

>>> from emptiesback.offers import Offer
>>> offer = Offer(("empty", 1, 3), ("cap", 1, 4))
>>> [offer.trades_made(10), offer.left_over(10)]
[{'empty': 7, 'cap': 5}, {'empty': 1, 'cap': 2}]

>>> from emptiesback.offers import Offer
>>> offer = Offer(("empty", 1, 3), ("cap", 1, 4))
>>> list(offer.rounds(10))
[10, 5, 3, 2, 1, 1]

>>> from emptiesback.offers import Offer
>>> offer = Offer(("empty", 1, 3), ("cap", 1, 4))
>>> offer.credit(10)
24

>>> from emptiesback.offers import Offer
>>> offer = Offer(("empty", 1, 3), ("cap", 1, 4))
>>> offer.fewest_bottles(6)
4

>>> from emptiesback.offers import Offer
>>> offer = Offer(("empty", 1, 3), ("cap", 1, 4))
>>> list(offer.missing(0, 12))
[3, 4, 6, 8, 9, 12]

>>> from emptiesback.offers import Offer
>>> offer = Offer(("empty", 1, 3), ("cap", 1, 4))
>>> [offer.count_missing(12), offer.nth_missing(3)]
[6, 6]

>>> from emptiesback.offers import Offer
>>> offer = Offer(("empty", 1, 3), ("cap", 1, 4))
>>> offer.pooled(2, 3)
3

>>> from emptiesback.offers import Offer, better_from, first_difference
>>> offer = Offer(("empty", 1, 3), ("cap", 1, 4))
>>> [first_difference(offer, Offer.simple(3)), better_from(offer, Offer.simple(3)), better_from(offer, offer)]
[3, 3, None]

>>> from emptiesback.offers import Offer
>>> from emptiesback.steps import play
>>> offer = Offer(("empty", 1, 3), ("cap", 1, 4))
>>> play(offer, 3, [("drink", 3), ("empty", 1)])
(3, 1, {'empty': 0, 'cap': 3})

>>> from emptiesback.offers import Offer
>>> from emptiesback.steps import play
>>> offer = Offer(("empty", 1, 3), ("cap", 1, 4))
>>> play(offer, 3, [("drink", 3), ("cap", 1)])
raises InvalidStep(index=1)

>>> from emptiesback.offers import Offer
>>> from emptiesback.steps import greedy_steps
>>> offer = Offer(("empty", 1, 3), ("cap", 1, 4))
>>> greedy_steps(offer, 3)
[('drink', 3), ('empty', 1), ('drink', 1), ('cap', 1), ('drink', 1)]

>>> from emptiesback.offers import Offer
>>> from emptiesback.observers import BottleObserver
>>> offer = Offer(("empty", 1, 3), ("cap", 1, 4))
>>> observer = BottleObserver(offer)
>>> [observer.see_left("empty", 0), observer.records]
[1, [('left', 'empty', 0)]]

>>> from emptiesback.offers import Offer
>>> from emptiesback.observers import BottleObserver
>>> offer = Offer(("empty", 1, 3), ("cap", 1, 4))
>>> observer = BottleObserver(offer)
>>> observer.see_round(1, 1)
500000000000000000

>>> from emptiesback.offers import Offer
>>> from emptiesback.observers import BottleObserver
>>> offer = Offer(("empty", 1, 3), ("cap", 1, 4))
>>> observer = BottleObserver(offer)
>>> number = observer.see_left("cap", 2)
>>> [observer.count_up_to(10), observer.nth_possible(3)]
[4, 7]

>>> from emptiesback.stocks import Stock
>>> both = Stock(2, cap=1) + Stock(1, cap=4, empty=2)
>>> [both.filled, both.loose, both["cap"], "rag" in both, both * 2 >= both]
[3, {'cap': 5, 'empty': 2}, 5, False, True]

>>> from emptiesback.stocks import Stock
>>> Stock(1) - Stock(0, cap=1)
raises NotEnough(name='cap')

>>> from emptiesback.stocks import Stock
>>> from emptiesback.offers import Offer
>>> offer = Offer.simple(3)
>>> [Stock(10)(offer), Stock(10, empty=2)(offer)]
[14, 15]

>>> from emptiesback.stocks import Stock
>>> from emptiesback.offers import Offer
>>> from emptiesback.stocks import rest_of
>>> offer = Offer.simple(3)
>>> rest_of(offer, Stock(10, empty=2, rag=7)).loose
{'empty': 2, 'rag': 7}

>>> from emptiesback.stocks import Stock
>>> from emptiesback.offers import Offer
>>> from emptiesback.stocks import gain_of, pieces_for
>>> offer = Offer.simple(3)
>>> [gain_of(offer, Stock(1), Stock(1), Stock(1)), pieces_for(offer, Stock(2), "empty", 4)]
[1, 3]

>>> from emptiesback.stocks import Stock
>>> from emptiesback.offers import Offer
>>> from emptiesback.shops import LimitedShop, Shop
>>> offer = Offer.simple(3)
>>> [LimitedShop(offer, 2)(Stock(10)), list(Shop(offer).days(Stock(10), 5))]
[12, [(5, 10, 3), (6, 3, 1), (7, 1, 0)]]

>>> from emptiesback.stocks import Stock
>>> from emptiesback.offers import Offer
>>> from emptiesback.shops import DayShop, last_day
>>> offer = Offer.simple(3)
>>> last_day(DayShop(offer, 7, 0), Stock(10), 5)
15

>>> from emptiesback.stocks import Stock
>>> from emptiesback.offers import Offer
>>> from emptiesback.receipts import parse_receipt, receipt
>>> from emptiesback.shops import Shop
>>> offer = Offer.simple(3)
>>> parse_receipt(receipt(Shop(offer), Stock(10)))
('shop', [('full', 10), ('empty', 0), ('visits', 2), ('given', 4), ('drunk', 14)])

>>> from emptiesback.stocks import Stock
>>> from emptiesback.offers import Offer
>>> from emptiesback.receipts import receipt
>>> from emptiesback.shops import Shop
>>> offer = Offer.simple(3)
>>> receipt(Shop(offer), Stock(1234567)).split("\n")[1]
'full                     1,234,567'

>>> from emptiesback.receipts import parse_receipt
>>> parse_receipt("full 10")
raises InvalidReceipt(row=0)
'''


def outcome_of(source):
    """Run the lines of an example; return what its last line gives, or the error it raises."""
    names = {}
    *before, last = source
    exec("\n".join(before), names)
    try:
        return repr(eval(last, names))
    except ValueError as error:
        told = ", ".join(f"{name}={value!r}" for name, value in vars(error).items())
        return f"raises {type(error).__name__}" + (f"({told})" if told else "")


class Examples(unittest.TestCase):
    def test_every_example(self):
        blocks = EXAMPLES.strip().split("\n\n")
        self.assertEqual(len(blocks), 32)
        for block in blocks:
            *source, expected = block.split("\n")
            with self.subTest(block):
                self.assertEqual(outcome_of([line[4:] for line in source]), expected)


if __name__ == "__main__":
    unittest.main()
