"""Point 9: trades played step by step."""

import unittest

from emptiesback.errors import InvalidNumber, InvalidStep
from emptiesback.offers import Offer
from emptiesback.steps import greedy_steps, play
from plain import MANY, MOST, OFFERS, orders, simulate

OFFER = Offer(("empty", 1, 3), ("cap", 2, 5))
WRONG = [-1, MOST + 1, -MOST, 10 ** 5000, True, False]


class Playing(unittest.TestCase):
    def test_no_steps(self):
        self.assertEqual(play(OFFER, 0, []), (0, 0, {"empty": 0, "cap": 0}))
        self.assertEqual(play(OFFER, MOST, []), (0, MOST, {"empty": 0, "cap": 0}))

    def test_drinking_and_trading(self):
        steps = [("drink", 5), ("cap", 2), ("empty", 1), ("drink", 2), ("drink", 1), ("empty", 1)]
        states = [
            (5, 2, {"empty": 5, "cap": 10}),
            (5, 4, {"empty": 5, "cap": 0}),
            (5, 5, {"empty": 2, "cap": 0}),
            (7, 3, {"empty": 4, "cap": 4}),
            (8, 2, {"empty": 5, "cap": 6}),
            (8, 3, {"empty": 2, "cap": 6}),
        ]
        for many, state in enumerate(states, start=1):
            told = play(OFFER, 7, steps[:many])
            self.assertEqual(told, state)
            self.assertIs(type(told), tuple)
            self.assertEqual(list(told[2]), ["empty", "cap"])

    def test_all_orders_give_the_same_in_the_end(self):
        for trades in OFFERS:
            offer = Offer(*trades)
            for bottles in [0, 1, 7, 30]:
                for choose in orders():
                    drinks, _, loose, steps = simulate(trades, bottles, choose)
                    self.assertEqual(play(offer, bottles, steps), (drinks, 0, loose))
                    self.assertEqual(drinks, offer(bottles))
                    self.assertEqual(loose, offer.left_over(bottles))

    def test_each_part_of_the_steps(self):
        trades = [("empty", 1, 3), ("cap", 2, 5)]
        for choose in orders():
            steps = simulate(trades, 12, choose)[3]
            for many in range(len(steps) + 1):
                words = [word for word, _ in steps[:many]]
                drinks, empties, caps = [words.count(word) for word in ["drink", "empty", "cap"]]
                loose = {"empty": drinks - 3 * empties, "cap": 2 * drinks - 5 * caps}
                self.assertEqual(play(OFFER, 12, steps[:many]), (drinks, 12 - drinks + empties + caps, loose))

    def test_a_count_of_0_is_always_possible(self):
        steps = [("drink", 0), ("empty", 0), ("cap", 0)]
        self.assertEqual(play(OFFER, 0, steps), (0, 0, {"empty": 0, "cap": 0}))
        self.assertEqual(play(Offer(("a", 0, 1)), 2, [("drink", 2), ("a", 0)]), (2, 0, {"a": 0}))

    def test_the_greatest_counts(self):
        offer = Offer.simple(2)
        self.assertEqual(play(offer, MOST, [("drink", MOST)]), (MOST, 0, {"empty": MOST}))
        steps = [("drink", MOST), ("empty", MOST // 2), ("drink", MOST // 2)]
        self.assertEqual(play(offer, MOST, steps), (MOST * 3 // 2, 0, {"empty": MOST // 2}))

    def test_just_enough_pieces(self):
        self.assertEqual(play(OFFER, 3, [("drink", 3), ("empty", 1)]), (3, 1, {"empty": 0, "cap": 6}))
        self.assertEqual(play(OFFER, 6, [("drink", 6), ("empty", 2)]), (6, 2, {"empty": 0, "cap": 12}))


class WrongSteps(unittest.TestCase):
    def assert_wrong(self, index, bottles, steps):
        with self.assertRaises(InvalidStep) as caught:
            play(OFFER, bottles, steps)
        self.assertEqual(caught.exception.index, index, steps)

    def test_another_word(self):
        for word in ["label", "", "Drink", "drinks", "Empty", "empty ", "full"]:
            for count in [0, 1]:
                self.assert_wrong(0, 9, [(word, count)])
                self.assert_wrong(2, 9, [("drink", 3), ("empty", 1), (word, count), ("drink", 1)])

    def test_count_out_of_range(self):
        for count in WRONG:
            for word in ["drink", "empty", "cap"]:
                self.assert_wrong(0, 5, [(word, count)])
                self.assert_wrong(1, MOST, [("drink", MOST), (word, count)])

    def test_more_bottles_than_are_full(self):
        self.assert_wrong(0, 0, [("drink", 1)])
        self.assert_wrong(0, 4, [("drink", 5)])
        self.assert_wrong(1, 4, [("drink", 3), ("drink", 2)])
        self.assert_wrong(2, 3, [("drink", 3), ("empty", 1), ("drink", 2)])
        self.assert_wrong(0, MOST - 1, [("drink", MOST)])

    def test_more_trades_than_there_are_pieces_for(self):
        self.assert_wrong(0, 9, [("empty", 1)])
        self.assert_wrong(1, 9, [("drink", 2), ("empty", 1)])
        self.assert_wrong(1, 9, [("drink", 5), ("empty", 2)])
        self.assert_wrong(1, 9, [("drink", 2), ("cap", 1)])
        self.assert_wrong(3, 9, [("drink", 3), ("empty", 1), ("cap", 1), ("empty", 1)])
        self.assert_wrong(3, 9, [("drink", 3), ("empty", 1), ("cap", 1), ("cap", 1)])
        with self.assertRaises(InvalidStep) as caught:
            play(Offer(("a", 0, 1)), 3, [("drink", 3), ("a", 1)])
        self.assertEqual(caught.exception.index, 1)

    def test_the_first_of_several_is_told(self):
        self.assert_wrong(0, 2, [("rag", 1), ("drink", 9), ("drink", -1)])
        self.assert_wrong(1, 2, [("drink", 1), ("drink", 9), ("rag", 1)])
        self.assert_wrong(1, 2, [("drink", 1), ("drink", -1), ("drink", 9)])

    def test_number_of_bottles(self):
        for bottles in WRONG:
            with self.assertRaises(InvalidNumber):
                play(OFFER, bottles, [])
            with self.assertRaises(InvalidNumber):
                play(OFFER, bottles, [("rag", 1), ("drink", -1)])


class GreedySteps(unittest.TestCase):
    def test_no_bottles(self):
        for trades in OFFERS:
            self.assertEqual(greedy_steps(Offer(*trades), 0), [])

    def test_first_the_drinks_then_the_trades_in_order(self):
        steps = [("drink", 10), ("empty", 3), ("cap", 4), ("drink", 7), ("empty", 2), ("cap", 2),
                 ("drink", 4), ("empty", 2), ("cap", 2), ("drink", 4), ("empty", 1), ("cap", 2),
                 ("drink", 3), ("empty", 1), ("cap", 1), ("drink", 2), ("empty", 1), ("cap", 1),
                 ("drink", 2)]
        told = greedy_steps(OFFER, 10)
        self.assertEqual(told[:len(steps)], steps)
        swapped = greedy_steps(Offer(("cap", 2, 5), ("empty", 1, 3)), 10)
        self.assertEqual(swapped[:3], [("drink", 10), ("cap", 4), ("empty", 3)])
        self.assertIs(type(told), list)
        self.assertTrue(all(type(step) is tuple for step in told))

    def test_steps_of_the_rounds(self):
        for trades in OFFERS:
            offer = Offer(*trades)
            for bottles in [*range(60), *MANY]:
                steps = greedy_steps(offer, bottles)
                self.assertEqual([count for word, count in steps if word == "drink"], list(offer.rounds(bottles)))
                self.assertTrue(all(count > 0 for _, count in steps))
                places = ["drink", *offer.kinds]
                order = [places.index(word) for word, _ in steps]
                for before, after in zip(order, order[1:]):
                    self.assertTrue(after == 0 or before < after)
                made = {kind: 0 for kind in offer.kinds}
                for word, count in steps:
                    if word != "drink":
                        made[word] += count
                self.assertEqual(made, offer.trades_made(bottles))

    def test_all_trades_are_made_before_the_next_drinks(self):
        for trades in OFFERS:
            offer = Offer(*trades)
            for bottles in [1, 9, 50, MOST]:
                steps = greedy_steps(offer, bottles)
                for many in range(1, len(steps) + 1):
                    drinks, full, loose = play(offer, bottles, steps[:many])
                    if steps[many - 1][0] == "drink":
                        self.assertEqual(full, 0)
                    if many == len(steps) or steps[many][0] == "drink":
                        self.assertTrue(all(loose[kind] < offer[kind][1] for kind in offer.kinds))

    def test_they_can_be_played(self):
        for trades in OFFERS:
            offer = Offer(*trades)
            for bottles in [*range(60), *MANY]:
                told = play(offer, bottles, greedy_steps(offer, bottles))
                self.assertEqual(told, (offer(bottles), 0, offer.left_over(bottles)))

    def test_number_of_bottles(self):
        for bottles in WRONG:
            with self.assertRaises(InvalidNumber):
                greedy_steps(OFFER, bottles)


if __name__ == "__main__":
    unittest.main()
