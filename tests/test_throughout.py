"""Point 1: what holds throughout, and where the interface says that its names stand."""

import ast
import copy
import inspect
import pathlib
import random
import unittest

import emptiesback
from emptiesback import errors, observers, offers, receipts, shops, steps, stocks
from emptiesback.errors import (
    Contradiction, InvalidKind, InvalidNumber, InvalidOffer, InvalidReceipt, InvalidStep, NotEnough, TradeError,
    UnknownKind,
)
from emptiesback.observers import BottleObserver
from emptiesback.offers import Offer, better_from, first_difference
from emptiesback.receipts import parse_receipt, receipt
from emptiesback.shops import ChosenShop, DayShop, LimitedShop, Shop, last_day
from emptiesback.steps import greedy_steps, play
from emptiesback.stocks import Stock, gain_of, pieces_for, rest_of
from plain import MOST, OFFERS

PACKAGE = pathlib.Path(emptiesback.__file__).parent
TRADES = [("empty", 1, 3), ("cap", 1, 4)]


def told_by(offer):
    """Return what an offer tells, with every method and sign."""
    return [
        offer.trades, offer.kinds, offer.period, offer.steady_from,
        offer(10), offer.trades_made(10), offer.left_over(10), list(offer.rounds(10)), offer.credit(10),
        offer.fewest_bottles(10), list(offer.missing(0, 99)), offer.count_missing(99), offer.nth_missing(9),
        offer.pooled(1, 2, 3), bool(offer), [drinks in offer for drinks in range(99)],
        [offer[kind] for kind in offer.kinds], (offer - "cap").trades, (offer + Offer(("bag", 1, 9))).trades,
        offer <= Offer.simple(4), offer >= Offer.simple(4), offer < offer, offer > Offer.simple(4),
        first_difference(offer, Offer.simple(4)), better_from(offer, Offer.simple(4)),
        greedy_steps(offer, 10), play(offer, 3, [("drink", 3), ("empty", 1)]),
    ]


def wrong_calls(offer):
    """Return calls that raise an error."""
    return [
        lambda: offer(-1), lambda: offer.trades_made(-1), lambda: offer.left_over(MOST + 1),
        lambda: list(offer.rounds(-1)), lambda: offer.credit(True), lambda: offer.fewest_bottles(-1),
        lambda: list(offer.missing(3, 2)), lambda: offer.count_missing(-1), lambda: offer.nth_missing(0),
        lambda: offer.pooled(1, -1), lambda: offer["rag"], lambda: offer - "rag", lambda: offer + offer,
        lambda: greedy_steps(offer, -1), lambda: play(offer, 3, [("drink", 3), ("empty", 1), ("cap", 1)]),
    ]


class Unchanged(unittest.TestCase):
    def test_repeated_calls_return_equal_results(self):
        offer = Offer(*TRADES)
        first = told_by(offer)
        self.assertEqual(told_by(offer), first)
        self.assertEqual(told_by(Offer(*TRADES)), first)

    def test_calls_that_raise_an_error_change_nothing(self):
        offer = Offer(*TRADES)
        before = told_by(offer)
        for call in wrong_calls(offer):
            with self.assertRaises(TradeError):
                call()
            self.assertEqual(told_by(offer), before)

    def test_arguments_are_not_modified(self):
        trades = [tuple(trade) for trade in TRADES]
        offer = Offer(*trades)
        played = [("drink", 3), ("empty", 1)]
        play(offer, 3, played)
        self.assertEqual(played, [("drink", 3), ("empty", 1)])
        wrong = [("drink", 3), ("cap", 1)]
        with self.assertRaises(InvalidStep):
            play(offer, 3, wrong)
        self.assertEqual(wrong, [("drink", 3), ("cap", 1)])
        other = Offer.simple(4)
        before = [told_by(offer), other.trades, other(10)]
        first_difference(offer, other)
        better_from(offer, other)
        self.assertEqual([told_by(offer), other.trades, other(10)], before)

    def test_arguments_are_not_kept(self):
        offer = Offer(*TRADES)
        played = [("drink", 3)]
        told = play(offer, 3, played)
        played.append(("empty", 1))
        self.assertEqual(told, (3, 0, {"empty": 3, "cap": 3}))
        self.assertEqual(play(offer, 3, [("drink", 3)]), told)

    def test_the_caller_may_modify_what_is_returned(self):
        offer = Offer(*TRADES)
        before = told_by(offer)
        for returned in [offer.trades_made(10), offer.left_over(10), play(offer, 3, [])[2]]:
            returned["empty"] = 99
            returned.clear()
        greedy_steps(offer, 10).clear()
        self.assertEqual(told_by(offer), before)


def things():
    """Return an offer, a stock, an observer that has seen something, and a shop of each class."""
    offer, stock = Offer(*TRADES), Stock(50, cap=9, rag=4)
    observer = BottleObserver(offer)
    observer.see_left("cap", 2)
    observer.see_round(2, 1)
    return offer, stock, observer, [Shop(offer), LimitedShop(offer, 5), ChosenShop(offer, "cap"), DayShop(offer, 7, 1)]


def calls_of(offer, stock, observer, family):
    """Return calls of all that tells something about the things, with equal results each time."""
    calls = [
        lambda: told_by(offer), lambda: offer.trades_made(10), lambda: offer.left_over(10),
        lambda: list(offer.rounds(10)), lambda: greedy_steps(offer, 10), lambda: play(offer, 3, [("drink", 3)]),
        lambda: stock.filled, lambda: stock.loose, lambda: [stock["full"], stock["cap"], stock["empty"]],
        lambda: ["full" in stock, "empty" in stock, bool(stock), stock == stock * 1, stock <= stock * 2],
        lambda: (stock + stock).loose, lambda: (stock - Stock(1, rag=3)).loose, lambda: (stock * 3).loose,
        lambda: stock(offer), lambda: rest_of(offer, stock).loose, lambda: gain_of(offer, stock, stock),
        lambda: pieces_for(offer, stock, "cap", 500),
        lambda: observer.records, lambda: [observer.count_up_to(last) for last in [0, 50, MOST]],
        lambda: [observer.nth_possible(number) for number in [1, 50, MOST]],
        lambda: parse_receipt("***************shop***************"),
    ]
    for shop in family:
        calls += [
            lambda shop=shop: [shop.KIND, shop.terms.trades], lambda shop=shop: shop(stock),
            lambda shop=shop: list(shop.days(stock, 3)), lambda shop=shop: last_day(shop, stock, 3),
            lambda shop=shop: receipt(shop, stock), lambda shop=shop: parse_receipt(receipt(shop, stock)),
        ]
    return calls


def spoil(value):
    """Modify all lists and dicts in a value."""
    if isinstance(value, (list, tuple)):
        for part in value:
            spoil(part)
    if isinstance(value, list):
        value.append("spoiled")
        value.reverse()
    if isinstance(value, dict):
        for key in value:
            value[key] = "spoiled"
        value["spoiled"] = 0


class Again(unittest.TestCase):
    def test_in_another_order_with_all_returned_lists_and_dicts_modified(self):
        chance = random.Random(24)
        calls = calls_of(*things())
        expected = [copy.deepcopy(call()) for call in calls]
        for _ in range(5):
            for at in chance.sample(range(len(calls)), len(calls)):
                told = calls[at]()
                self.assertEqual(told, expected[at], at)
                spoil(told)

    def test_with_new_things(self):
        self.assertEqual([call() for call in calls_of(*things())], [call() for call in calls_of(*things())])

    def test_with_calls_between_them_that_raise_an_error(self):
        offer, stock, observer, family = things()
        calls = calls_of(offer, stock, observer, family)
        expected = [copy.deepcopy(call()) for call in calls]
        for wrong, error in [
            (lambda: observer.see_left("cap", 9), Contradiction), (lambda: observer.see_left("rag", 0), UnknownKind),
            (lambda: observer.see_left("cap", 1), Contradiction), (lambda: observer.see_round(2, 0), Contradiction),
            (lambda: observer.see_round(3, 0), InvalidNumber), (lambda: observer.count_up_to(-1), InvalidNumber),
            (lambda: observer.nth_possible(0), InvalidNumber), (lambda: stock - Stock(9, cap=10), NotEnough),
            (lambda: stock + Stock(MOST), InvalidNumber), (lambda: stock * -1, InvalidNumber),
            (lambda: gain_of(offer, stock, Stock(MOST)), InvalidNumber),
            (lambda: pieces_for(offer, stock, "rag", 1), UnknownKind),
            (lambda: pieces_for(offer, stock, "cap", -1), InvalidNumber),
            (lambda: LimitedShop(offer, -1), InvalidNumber), (lambda: ChosenShop(offer, "rag"), UnknownKind),
            (lambda: DayShop(offer, 7, 7), InvalidNumber), (lambda: list(family[0].days(stock, -1)), InvalidNumber),
            (lambda: last_day(family[3], stock, -1), InvalidNumber), (lambda: parse_receipt("full 10"), InvalidReceipt),
            (lambda: Stock(1, drink=3), InvalidKind),
        ]:
            with self.assertRaises(error):
                wrong()
            self.assertEqual([call() for call in calls], expected)

    def test_generators_that_are_not_read_to_their_end(self):
        _, stock, _, family = things()
        for shop in family:
            whole = list(shop.days(stock, 3))
            next(shop.days(stock, 3))
            self.assertEqual(list(shop.days(stock, 3)), whole)


class Arguments(unittest.TestCase):
    def test_a_boolean_is_not_an_integer(self):
        offer = Offer(*TRADES)
        for value in [True, False]:
            for call in [
                offer, offer.trades_made, offer.left_over, offer.credit, offer.fewest_bottles,
                offer.count_missing, offer.nth_missing, offer.pooled,
                lambda number: list(offer.rounds(number)), lambda number: list(offer.missing(number, 5)),
                lambda number: list(offer.missing(0, number)), lambda number: greedy_steps(offer, number),
                lambda number: play(offer, number, []), lambda number: offer.pooled(3, number),
            ]:
                with self.assertRaises(InvalidNumber):
                    call(value)
            with self.assertRaises(InvalidStep):
                play(offer, 3, [("drink", value)])
            with self.assertRaises(InvalidOffer):
                Offer(("cap", value, 12))
            with self.assertRaises(InvalidOffer):
                Offer(("cap", 0, value))
            self.assertIs(value in offer, False)

    def test_a_boolean_is_not_an_integer_in_part_2(self):
        offer, stock, observer, family = things()
        for value in [True, False]:
            for call in [
                Stock, lambda number: Stock(0, cap=number), lambda number: stock * number,
                lambda number: pieces_for(offer, stock, "cap", number), lambda number: LimitedShop(offer, number),
                lambda number: DayShop(offer, number), lambda number: DayShop(offer, 7, number),
                lambda number: list(family[0].days(stock, number)), lambda number: last_day(family[1], stock, number),
                lambda number: observer.see_round(number, 0), lambda number: observer.see_round(1, number),
                observer.count_up_to, observer.nth_possible,
            ]:
                with self.assertRaises(InvalidNumber):
                    call(value)

    def test_what_is_no_integer_at_all(self):
        for value in ["3", 3.0, None]:
            with self.assertRaises(InvalidNumber):
                Offer(*TRADES)(value)

    def test_errors_are_checked_in_the_order_of_the_parameters(self):
        offer = Offer(*TRADES)
        with self.assertRaises(InvalidNumber):
            play(offer, -1, [("rag", 1)])
        with self.assertRaises(InvalidOffer):
            Offer(("cap", 12, 1), ("cap", 12, 1))
        with self.assertRaises(UnknownKind):
            Offer(("cap", 1, 3)) - "rag"
        with self.assertRaises(InvalidNumber):
            Stock(-1, drink=1)
        with self.assertRaises(UnknownKind):
            pieces_for(offer, Stock(), "rag", -1)
        with self.assertRaises(UnknownKind):
            BottleObserver(offer).see_left("rag", -1)

    def test_generators_raise_when_the_iteration_begins(self):
        offer = Offer(*TRADES)
        for generator in [offer.rounds(-1), offer.rounds(MOST + 1), offer.missing(-1, 3), offer.missing(3, 2),
                          offer.missing(0, 10000), offer.missing(0, MOST + 1), Shop(offer).days(Stock(), -1),
                          DayShop(offer, 7).days(Stock(1), MOST + 1)]:
            self.assertTrue(inspect.isgenerator(generator))
            with self.assertRaises(InvalidNumber):
                next(generator)

    def test_generators_yield(self):
        offer = Offer(*TRADES)
        rounds, missing = offer.rounds(10), offer.missing(0, 12)
        self.assertTrue(inspect.isgenerator(rounds) and inspect.isgenerator(missing))
        self.assertEqual([next(rounds), next(missing), next(rounds)], [10, 3, 5])

    def test_dicts_have_their_keys_in_the_order_of_the_offer(self):
        for trades in OFFERS:
            for order in [trades, trades[::-1]]:
                offer = Offer(*order)
                for told in [offer.trades_made(7), offer.left_over(7), play(offer, 7, [("drink", 7)])[2]]:
                    self.assertIs(type(told), dict)
                    self.assertEqual(tuple(told), offer.kinds)

    def test_all_numbers_are_integers(self):
        offer = Offer(*TRADES)
        for bottles in [0, 7, MOST]:
            numbers = [offer(bottles), offer.credit(bottles), offer.fewest_bottles(bottles),
                       offer.count_missing(bottles), offer.pooled(bottles), *offer.trades_made(bottles).values(),
                       *offer.left_over(bottles).values(), *offer.rounds(bottles), *offer.period]
            stock = Stock(bottles, cap=bottles)
            observer = BottleObserver(offer)
            numbers += [stock.filled, *stock.loose.values(), stock["cap"], stock["rag"], stock(offer),
                        gain_of(offer, stock), pieces_for(offer, stock, "cap", bottles), Shop(offer)(stock),
                        *[number for day in Shop(offer).days(stock, bottles) for number in day],
                        observer.see_round(1, 0), observer.see_left("cap", 2), observer.count_up_to(bottles)]
            self.assertEqual({type(number) for number in numbers}, {int})


class Interface(unittest.TestCase):
    METHODS = {
        Offer: ["__init__", "simple", "__call__", "trades_made", "left_over", "rounds", "credit", "fewest_bottles",
                "missing", "count_missing", "nth_missing", "pooled", "trades", "kinds", "period", "steady_from",
                "__add__", "__sub__", "__getitem__", "__bool__", "__contains__", "__le__", "__lt__", "__ge__",
                "__gt__", "MAX_TRADES", "MAX_NEEDED"],
        BottleObserver: ["__init__", "records", "see_left", "see_round", "count_up_to", "nth_possible"],
        Stock: ["__init__", "filled", "loose", "__getitem__", "__contains__", "__bool__", "__eq__", "__le__",
                "__ge__", "__add__", "__sub__", "__mul__", "__call__"],
        Shop: ["__init__", "KIND", "terms", "days", "__call__"],
        LimitedShop: ["__init__", "KIND", "__call__"],
        ChosenShop: ["__init__", "KIND", "__call__"],
        DayShop: ["__init__", "KIND", "__call__"],
    }

    def test_methods_are_defined_in_the_class_itself(self):
        for owner, names in self.METHODS.items():
            for name in names:
                self.assertIn(name, vars(owner))

    def test_properties_and_the_class_method(self):
        for owner, names in [(Offer, ["trades", "kinds", "period", "steady_from"]), (BottleObserver, ["records"]),
                             (Stock, ["filled", "loose"]), (Shop, ["terms"])]:
            for name in names:
                self.assertIsInstance(vars(owner)[name], property)
        self.assertIsInstance(vars(Offer)["simple"], classmethod)

    def test_names_are_defined_in_their_files(self):
        for module, names in [
            (errors, ["TradeError", "InvalidOffer", "TooGenerous", "UnknownKind", "InvalidNumber", "InvalidStep",
                      "Contradiction", "InvalidKind", "NotEnough", "InvalidReceipt"]),
            (offers, ["Offer", "first_difference", "better_from"]),
            (steps, ["play", "greedy_steps"]),
            (observers, ["BottleObserver"]),
            (stocks, ["Stock", "rest_of", "gain_of", "pieces_for"]),
            (shops, ["Shop", "LimitedShop", "ChosenShop", "DayShop", "last_day"]),
            (receipts, ["receipt", "parse_receipt"]),
        ]:
            for name in names:
                self.assertEqual(getattr(module, name).__module__, module.__name__)

    def test_names_of_the_arguments(self):
        offer = Offer(*TRADES)
        self.assertEqual(Offer.simple(needed=3).trades, (("empty", 1, 3),))
        self.assertEqual(offer.trades_made(bottles=10), {"empty": 7, "cap": 5})
        self.assertEqual(offer.left_over(bottles=10), {"empty": 1, "cap": 2})
        self.assertEqual(list(offer.rounds(bottles=10)), [10, 5, 3, 2, 1, 1])
        self.assertEqual([offer(bottles=10), offer.credit(bottles=10)], [22, 24])
        self.assertEqual(offer.fewest_bottles(drinks=6), 4)
        self.assertEqual(list(offer.missing(first=0, last=12)), [3, 4, 6, 8, 9, 12])
        self.assertEqual([offer.count_missing(last=12), offer.nth_missing(number=3)], [6, 6])
        self.assertEqual(first_difference(one=offer, other=Offer.simple(3)), 3)
        self.assertEqual(better_from(one=offer, other=Offer.simple(3)), 3)
        self.assertEqual(play(offer=offer, bottles=3, steps=[("drink", 1)])[:2], (1, 2))
        self.assertEqual(greedy_steps(offer=offer, bottles=1), [("drink", 1)])

    def test_names_of_the_arguments_in_part_2(self):
        offer, stock = Offer(*TRADES), Stock(full=10, cap=1)
        observer = BottleObserver(offer=offer)
        self.assertEqual(observer.see_left(kind="cap", count=2), observer.see_left("cap", 2))
        self.assertEqual(observer.see_round(number=1, parity=1), observer.see_round(1, 1))
        self.assertEqual([observer.count_up_to(last=7), observer.nth_possible(number=1)],
                         [observer.count_up_to(7), observer.nth_possible(1)])
        self.assertEqual([stock(offer=offer), rest_of(offer=offer, stock=stock)], [stock(offer), rest_of(offer, stock)])
        self.assertEqual(pieces_for(offer=offer, stock=stock, kind="cap", drinks=99),
                         pieces_for(offer, stock, "cap", 99))
        for shop in [Shop(offer=offer), LimitedShop(offer=offer, most=9), ChosenShop(offer=offer),
                     DayShop(offer=offer, length=7)]:
            self.assertEqual(list(shop.days(stock=stock, start=3)), list(shop.days(stock, 3)))
            self.assertEqual(shop(stock=stock), shop(stock))
            self.assertEqual(last_day(shop=shop, stock=stock, start=3), last_day(shop, stock, 3))
            self.assertEqual(parse_receipt(text=receipt(shop=shop, stock=stock)), parse_receipt(receipt(shop, stock)))


class Files(unittest.TestCase):
    def test_no_clock_no_randomness_and_no_files(self):
        for path in PACKAGE.rglob("*.py"):
            tree = ast.parse(path.read_text())
            for node in ast.walk(tree):
                self.assertNotIsInstance(node, ast.Import)
                if isinstance(node, ast.ImportFrom):
                    self.assertTrue(node.module == "math" or node.module.startswith("emptiesback."), node.module)
                if isinstance(node, ast.Name):
                    self.assertNotIn(node.id, ["open", "input", "print", "eval", "exec", "__import__"])

    def test_sizes_and_characters(self):
        for path in PACKAGE.rglob("*.py"):
            text = path.read_text()
            self.assertTrue(all(sign == "\n" or " " <= sign <= "~" for sign in text), path)
            lines = text.split("\n")
            self.assertLess(len(lines), 400, path)
            self.assertLessEqual(max(len(line) for line in lines), 120, path)
            for node in ast.walk(ast.parse(text)):
                if isinstance(node, ast.FunctionDef):
                    self.assertLessEqual(node.end_lineno - node.lineno + 1, 40, node.name)


if __name__ == "__main__":
    unittest.main()
