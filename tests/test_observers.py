"""Point 10: which numbers of bottles are possible after what has been seen."""

import random
import unittest
from math import lcm

from emptiesback.errors import Contradiction, InvalidNumber, TradeError, UnknownKind
from emptiesback.observers import BottleObserver
from emptiesback.offers import Offer
from plain import MANY, MOST, OFFERS, bought, ends_table, is_period

TABLE = 1500
WRONG = [-1, MOST + 2, -MOST, 10 ** 5000, True, False]


def second_round(trades, bottles):
    """Return how many bottles are drunk in the second round, trading one by one."""
    full = 0
    for _, left, needed in trades:
        loose = left * bottles
        while loose >= needed:
            loose -= needed
            full += 1
    return full


def seen_of(trades, count):
    """Return for 0 bottles, 1 bottle and so on a dict from each possible observation to what is seen."""
    seen = []
    for bottles, (_, loose) in enumerate(ends_table(trades, count)):
        told = {("left", kind): many for kind, many in loose.items()}
        told["round", 1] = bottles % 2
        told["round", 2] = second_round(trades, bottles) % 2
        seen.append(told)
    return seen


def observe(observer, word, which, what):
    return observer.see_left(which, what) if word == "left" else observer.see_round(which, what)


def state_of(observer):
    numbers = [0, 1, 7, 100, 10 ** 9, MOST - 1, MOST]
    return [observer.records, [observer.count_up_to(last) for last in numbers],
            [observer.nth_possible(number) for number in [1, 2, 3, 10, 10 ** 6, MOST, MOST + 1]]]


class FewBottles(unittest.TestCase):
    def assert_possible(self, observer, possible):
        """Compare with the list of all possible numbers of the table."""
        for last in [0, 1, 2, 9, 57, 100, 364, 990, TABLE - 1]:
            self.assertEqual(observer.count_up_to(last), sum(number <= last for number in possible))
        for at, number in list(enumerate(possible, start=1))[:150]:
            self.assertEqual(observer.nth_possible(at), number)
        following = observer.nth_possible(len(possible) + 1)
        self.assertTrue(following is None or following >= TABLE)

    def test_by_trying_all_numbers(self):
        chance = random.Random(10)
        for trades in OFFERS:
            seen = seen_of(trades, TABLE)
            for _ in range(6):
                told = seen[chance.choice([0, 1, 2, 3, chance.randrange(30), chance.randrange(TABLE)])]
                observer, possible = BottleObserver(Offer(*trades)), list(range(TABLE))
                self.assert_possible(observer, possible)
                for word, which in chance.sample(list(told), len(told)):
                    what = told[word, which]
                    observe(observer, word, which, what)
                    possible = [number for number in possible if seen[number][word, which] == what]
                    self.assert_possible(observer, possible)

    def test_each_single_observation(self):
        for trades in OFFERS:
            seen = seen_of(trades, TABLE)
            for word, which in seen[0]:
                for what in range(12 if word == "left" else 2):
                    observer = BottleObserver(Offer(*trades))
                    possible = [number for number in range(TABLE) if seen[number][word, which] == what]
                    if possible:
                        remaining = observe(observer, word, which, what)
                        self.assertEqual(remaining, observer.count_up_to(MOST))
                        self.assert_possible(observer, possible)
                    else:
                        with self.assertRaises(Contradiction):
                            observe(observer, word, which, what)

    def test_a_round_that_does_not_take_place_has_0_bottles(self):
        observer = BottleObserver(Offer.simple(12))
        observer.see_round(2, 0)
        self.assertEqual([observer.nth_possible(number) for number in range(1, 14)], [*range(12), 24])
        self.assertEqual(observer.see_round(1, 1), observer.count_up_to(MOST))
        observer = BottleObserver(Offer.simple(12))
        observer.see_round(2, 1)
        self.assertEqual([observer.count_up_to(11), observer.nth_possible(1)], [0, 12])
        for trades in OFFERS:
            observer = BottleObserver(Offer(*trades))
            observer.see_round(1, 0)
            observer.see_round(2, 0)
            self.assertEqual([observer.nth_possible(1), observer.count_up_to(0)], [0, 1])

    def test_no_second_round_at_all(self):
        for offer in [Offer(("a", 0, 1)), Offer(("a", 0, 12), ("b", 0, 7))]:
            observer = BottleObserver(offer)
            with self.assertRaises(Contradiction):
                observer.see_round(2, 1)
            self.assertEqual(observer.see_round(2, 0), MOST + 1)
            self.assertEqual(observer.see_left("a", 0), MOST + 1)
            with self.assertRaises(Contradiction):
                observer.see_left("a", 1)


class AllNumbers(unittest.TestCase):
    def test_nothing_seen(self):
        for trades in OFFERS:
            observer = BottleObserver(Offer(*trades))
            self.assertEqual(observer.records, [])
            for number in [0, 1, 2, 500, *MANY]:
                self.assertEqual(observer.count_up_to(number), number + 1)
                self.assertEqual(observer.nth_possible(number + 1), number)

    def test_rounds_of_even_and_odd_bottles(self):
        for trades in OFFERS:
            self.assertEqual(BottleObserver(Offer(*trades)).see_round(1, 0), MOST // 2 + 1)
            self.assertEqual(BottleObserver(Offer(*trades)).see_round(1, 1), MOST // 2)

    def test_counts_of_all_numbers(self):
        checked = 0
        for trades in OFFERS:
            drinks = next(d for d in range(1, 30000) if is_period(trades, d))
            # From `drinks` bottles on, everything that is seen comes again after so many more bottles.
            span = lcm(drinks - bought(trades, drinks), 2 * drinks)
            if span > 6000:
                continue
            checked += 1
            seen = seen_of(trades, drinks + span)
            for told in [seen[0], seen[1], seen[drinks], seen[-1]]:
                observer = BottleObserver(Offer(*trades))
                possible = list(range(drinks + span))
                for (word, which), what in told.items():
                    possible = [number for number in possible if seen[number][word, which] == what]
                    many = sum(number < drinks for number in possible)
                    turns, rest = divmod(MOST + 1 - drinks, span)
                    many += turns * (len(possible) - many) + sum(drinks <= n < drinks + rest for n in possible)
                    self.assertEqual(observe(observer, word, which, what), many)
                    self.assertEqual(observer.count_up_to(MOST), many)
        self.assertGreater(checked, 8)

    def test_known_counts(self):
        observer = BottleObserver(Offer.simple(2))
        # One empty is left of any bottles, none of no bottles.
        self.assertEqual(observer.see_left("empty", 1), MOST)
        self.assertEqual([observer.nth_possible(1), observer.nth_possible(MOST)], [1, MOST])
        self.assertIsNone(observer.nth_possible(MOST + 1))
        self.assertEqual(observer.see_round(1, 0), MOST // 2)
        # The second round has half the bottles.
        self.assertEqual(observer.see_round(2, 1), MOST // 4)
        self.assertEqual([observer.nth_possible(number) for number in [1, 2, 3]], [2, 6, 10])


class ManyBottles(unittest.TestCase):
    def test_the_true_number_remains_possible(self):
        for trades in OFFERS:
            offer = Offer(*trades)
            for bottles in MANY:
                observer = BottleObserver(offer)
                told = [("round", 1, bottles % 2), ("round", 2, bought(trades, bottles) % 2)]
                told += [("left", kind, many) for kind, many in offer.left_over(bottles).items()]
                for record in told:
                    remaining = observe(observer, *record)
                    self.assertEqual(observer.count_up_to(MOST), remaining)
                    place = observer.count_up_to(bottles)
                    self.assertEqual(observer.nth_possible(place), bottles)
                    self.assertEqual(observer.count_up_to(bottles - 1), place - 1)
                    self.assertLessEqual(observer.nth_possible(remaining), MOST)
                    self.assertIsNone(observer.nth_possible(remaining + 1))
                self.assertEqual(observer.records, told)

    def test_all_possible_numbers_show_what_was_seen(self):
        for trades in OFFERS:
            offer = Offer(*trades)
            observer = BottleObserver(offer)
            kind, many = list(offer.left_over(10 ** 15 + 1).items())[-1]
            observer.see_round(2, bought(trades, 10 ** 15 + 1) % 2)
            remaining = observer.see_left(kind, many)
            for number in [1, 2, remaining // 3, remaining // 2, remaining - 1, remaining]:
                bottles = observer.nth_possible(number)
                self.assertEqual(offer.left_over(bottles)[kind], many)
                self.assertEqual(bought(trades, bottles) % 2, bought(trades, 10 ** 15 + 1) % 2)
                self.assertEqual(observer.count_up_to(bottles), number)

    def test_the_order_does_not_matter(self):
        offer = Offer(("a", 2, 9), ("b", 3, 10), ("c", 3, 11))
        told = [("round", 1, 1), ("round", 2, 0)]
        told += [("left", kind, many) for kind, many in offer.left_over(10 ** 17 + 1).items()]
        told[1] = ("round", 2, bought(offer.trades, 10 ** 17 + 1) % 2)
        one, other = BottleObserver(offer), BottleObserver(offer)
        counts = [[observe(one, *record) for record in told], [observe(other, *record) for record in told[::-1]]]
        self.assertEqual(counts[0][-1], counts[1][-1])
        self.assertEqual(state_of(one)[1:], state_of(other)[1:])
        self.assertEqual(one.records, other.records[::-1])


class Records(unittest.TestCase):
    def test_all_accepted_observations(self):
        observer = BottleObserver(Offer(("empty", 1, 3), ("cap", 1, 4)))
        told = [("left", "cap", 2), ("round", 2, 1), ("left", "cap", 2), ("round", 1, 0), ("round", 1, 0)]
        for many, record in enumerate(told, start=1):
            observe(observer, *record)
            self.assertEqual(observer.records, told[:many])
        self.assertTrue(all(type(record) is tuple for record in observer.records))
        self.assertIs(type(observer.records), list)
        with self.assertRaises(TradeError):
            observer.see_round(1, 1)
        self.assertEqual(observer.records, told)

    def test_the_same_once_more_changes_no_count(self):
        for trades in OFFERS:
            observer = BottleObserver(Offer(*trades))
            kind = trades[-1][0]
            many = Offer(*trades).left_over(77)[kind]
            first = observer.see_left(kind, many)
            self.assertEqual(observer.see_left(kind, many), first)
            then = observer.see_round(2, 0)
            self.assertEqual(observer.see_round(2, 0), then)
            self.assertEqual(observer.see_left(kind, many), then)

    def test_the_caller_may_modify_them(self):
        observer = BottleObserver(Offer.simple(3))
        observer.see_left("empty", 2)
        before = state_of(observer)
        observer.records.append(("left", "empty", 1))
        observer.records.clear()
        self.assertEqual(state_of(observer), before)

    def test_observers_do_not_share_what_they_see(self):
        offer = Offer.simple(3)
        one, other = BottleObserver(offer), BottleObserver(offer)
        one.see_left("empty", 0)
        self.assertEqual([one.count_up_to(MOST), other.count_up_to(MOST), other.records], [1, MOST + 1, []])


class Wrong(unittest.TestCase):
    def seen(self):
        observer = BottleObserver(Offer(("empty", 1, 3), ("cap", 1, 4), ("rag", 0, 5)))
        observer.see_left("cap", 2)
        observer.see_round(1, 0)
        return observer

    def assert_error(self, error, call):
        for observer in [self.seen(), BottleObserver(Offer(("empty", 1, 3), ("cap", 1, 4), ("rag", 0, 5)))]:
            before = state_of(observer)
            with self.assertRaises(error):
                call(observer)
            self.assertEqual(state_of(observer), before)

    def test_contradictions_change_nothing(self):
        for count in [-1, 3, 4, 10 ** 18, 10 ** 5000, -(10 ** 5000)]:
            self.assert_error(Contradiction, lambda observer: observer.see_left("empty", count))
        for count in [-1, 1, 5]:
            self.assert_error(Contradiction, lambda observer: observer.see_left("rag", count))
        observer = self.seen()
        before = state_of(observer)
        for call in [lambda: observer.see_left("cap", 3), lambda: observer.see_left("empty", 0),
                     lambda: observer.see_round(1, 1)]:
            with self.assertRaises(Contradiction):
                call()
            self.assertEqual(state_of(observer), before)
        self.assertEqual(observer.see_left("rag", 0), before[1][-1])

    def test_a_boolean_is_no_count(self):
        for kind, count in [("empty", True), ("empty", False), ("rag", False)]:
            self.assert_error(Contradiction, lambda observer: observer.see_left(kind, count))

    def test_a_kind_without_a_trade(self):
        for kind in ["label", "", "drink", "full", "left", "Cap"]:
            for count in [0, 2, -1]:
                self.assert_error(UnknownKind, lambda observer: observer.see_left(kind, count))

    def test_a_round_that_is_not_1_or_2(self):
        for number in [0, 3, -1, 10 ** 5000, True, False]:
            for parity in [0, 1, 2]:
                self.assert_error(InvalidNumber, lambda observer: observer.see_round(number, parity))

    def test_a_parity_that_is_not_0_or_1(self):
        for number in [1, 2]:
            for parity in [-1, 2, 10 ** 5000, True, False]:
                self.assert_error(InvalidNumber, lambda observer: observer.see_round(number, parity))

    def test_numbers_of_bottles(self):
        for number in [*WRONG, MOST + 1]:
            self.assert_error(InvalidNumber, lambda observer: observer.count_up_to(number))
        for number in [*WRONG, 0]:
            self.assert_error(InvalidNumber, lambda observer: observer.nth_possible(number))

    def test_first_and_last_allowed_number(self):
        observer = BottleObserver(Offer(("empty", 1, 3), ("cap", 1, 4)))
        self.assertEqual([observer.count_up_to(0), observer.count_up_to(MOST)], [1, MOST + 1])
        self.assertEqual([observer.nth_possible(1), observer.nth_possible(MOST + 1)], [0, MOST])
        self.assertEqual(observer.see_left("empty", 0), 1)
        self.assertEqual([observer.count_up_to(0), observer.count_up_to(MOST)], [1, 1])
        self.assertEqual([observer.nth_possible(1), observer.nth_possible(2)], [0, None])
        self.assertIsNone(observer.nth_possible(MOST + 1))


if __name__ == "__main__":
    unittest.main()
