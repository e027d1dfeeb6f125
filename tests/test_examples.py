"""The examples of the interface, as they stand there."""

import unittest

EXAMPLES = '''
>>> from emptiesback.offers import Offer
>>> offer = Offer(("empty", 1, 3), ("cap", 1, 4))
>>> [offer.trades, offer.kinds, offer.period, offer.steady_from]
[(('empty', 1, 3), ('cap', 1, 4)), ('empty', 'cap'), (5, 12), 2]

>>> from emptiesback.offers import Offer
>>> Offer(("empty", 1, 2), ("cap", 1, 2))
raises TooGenerous

>>> from emptiesback.offers import Offer
>>> offer = Offer(("empty", 1, 3), ("cap", 1, 4))
>>> [offer["cap"], (offer - "cap").trades, 7 in offer, 6 in offer, bool(offer)]
[(1, 4), (('empty', 1, 3),), True, False, True]

>>> from emptiesback.offers import Offer
>>> offer = Offer(("empty", 1, 3), ("cap", 1, 4))
>>> (offer + Offer(("label", 1, 10))).kinds
('empty', 'cap', 'label')

>>> from emptiesback.offers import Offer
>>> offer = Offer(("empty", 1, 3), ("cap", 1, 4))
>>> [Offer.simple(3) <= offer, offer <= Offer.simple(3), offer > Offer.simple(3), offer < offer]
[True, False, True, False]

>>> from emptiesback.offers import Offer
>>> Offer.simple(3)(9)
13

>>> from emptiesback.offers import Offer
>>> offer = Offer(("empty", 1, 3), ("cap", 1, 4))
>>> [offer(3), offer(10), offer(10 ** 18)]
[5, 22, 2399999999999999998]

>>> from emptiesback.offers import Offer
>>> offer = Offer(("empty", 1, 3), ("cap", 1, 4))
>>> offer(-1)
raises InvalidNumber

>>> from emptiesback.offers import Offer
>>> offer = Offer(("empty", 1, 3), ("cap", 1, 4))
>>> [offer.trades_made(10), offer.left_over(10)]
[{'empty': 7, 'cap': 5}, {'empty': 1, 'cap': 2}]

>>> from emptiesback.offers import Offer
>>> offer = Offer(("empty", 1, 3), ("cap", 1, 4))
>>> list(offer.rounds(10))
[10, 5, 3, 2, 1, 1]

>>> from emptiesback.offers import Offer
>>> offer = Offer(("empty", 1, 3), ("cap", 1, 4))
>>> offer.credit(10)
24

>>> from emptiesback.offers import Offer
>>> offer = Offer(("empty", 1, 3), ("cap", 1, 4))
>>> offer.fewest_bottles(6)
4

>>> from emptiesback.offers import Offer
>>> offer = Offer(("empty", 1, 3), ("cap", 1, 4))
>>> list(offer.missing(0, 12))
[3, 4, 6, 8, 9, 12]

>>> from emptiesback.offers import Offer
>>> offer = Offer(("empty", 1, 3), ("cap", 1, 4))
>>> [offer.count_missing(12), offer.nth_missing(3)]
[6, 6]

>>> from emptiesback.offers import Offer
>>> offer = Offer(("empty", 1, 3), ("cap", 1, 4))
>>> offer.pooled(2, 3)
3

>>> from emptiesback.offers import Offer, better_from, first_difference
>>> offer = Offer(("empty", 1, 3), ("cap", 1, 4))
>>> [first_difference(offer, Offer.simple(3)), better_from(offer, Offer.simple(3)), better_from(offer, offer)]
[3, 3, None]

>>> from emptiesback.offers import Offer
>>> from emptiesback.steps import play
>>> offer = Offer(("empty", 1, 3), ("cap", 1, 4))
>>> play(offer, 3, [("drink", 3), ("empty", 1)])
(3, 1, {'empty': 0, 'cap': 3})

>>> from emptiesback.offers import Offer
>>> from emptiesback.steps import play
>>> offer = Offer(("empty", 1, 3), ("cap", 1, 4))
>>> play(offer, 3, [("drink", 3), ("cap", 1)])
raises InvalidStep(index=1)

>>> from emptiesback.offers import Offer
>>> from emptiesback.steps import greedy_steps
>>> offer = Offer(("empty", 1, 3), ("cap", 1, 4))
>>> greedy_steps(offer, 3)
[('drink', 3), ('empty', 1), ('drink', 1), ('cap', 1), ('drink', 1)]
'''


def outcome_of(source):
    """Run the lines of an example; return what its last line gives, or the error it raises."""
    names = {}
    *before, last = source
    exec("\n".join(before), names)
    try:
        return repr(eval(last, names))
    except ValueError as error:
        told = ", ".join(f"{name}={value!r}" for name, value in vars(error).items())
        return f"raises {type(error).__name__}" + (f"({told})" if told else "")


class Examples(unittest.TestCase):
    def test_every_example(self):
        blocks = EXAMPLES.strip().split("\n\n")
        self.assertEqual(len(blocks), 19)
        for block in blocks:
            *source, expected = block.split("\n")
            with self.subTest(block):
                self.assertEqual(outcome_of([line[4:] for line in source]), expected)


if __name__ == "__main__":
    unittest.main()
