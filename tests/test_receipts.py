"""Point 15: receipts, printed and read."""

import random
import re
import unittest

from emptiesback.errors import InvalidReceipt
from emptiesback.offers import Offer
from emptiesback.receipts import parse_receipt, receipt
from emptiesback.shops import ChosenShop, DayShop, LimitedShop, Shop
from emptiesback.stocks import Stock
from plain import MANY, MOST, OFFERS

OFFER = Offer(("empty", 1, 3), ("cap", 1, 4))
SHOPS = [Shop(OFFER), LimitedShop(OFFER, 4), ChosenShop(OFFER, "cap"), DayShop(OFFER, 7, 0, 3)]
TITLES = {
    "shop": "***************shop***************",
    "limited": "*************limited**************",
    "chosen": "**************chosen**************",
    "day": "***************day****************",
}


def grouped(number):
    """Return a number with a comma between groups of three digits, by hand."""
    digits = str(number)
    groups = []
    while digits:
        groups.insert(0, digits[-3:])
        digits = digits[:-3]
    return ",".join(groups)


def printed(label, number):
    """Return the line of a label and a number, by hand."""
    text = grouped(number)
    return label + (8 - len(label)) * " " + (26 - len(text)) * " " + text


def printed_receipt(shop, stock):
    """Return the text of a receipt, by hand."""
    days = list(shop.days(stock, 0))
    lines = [TITLES[shop.KIND], printed("full", stock.filled)]
    lines += [printed(kind, stock.loose.get(kind, 0)) for kind in shop.terms.kinds]
    lines.append(printed("visits", sum(given > 0 for _, _, given in days)))
    lines.append(printed("given", sum(given for _, _, given in days)))
    lines.append(printed("drunk", sum(drunk for _, drunk, _ in days)))
    return "\n".join(lines)


def wrong_row(text):
    """Return the first line that is not formed as one of a receipt, or None."""
    for row, line in enumerate(text.split("\n")):
        if row == 0:
            found = re.fullmatch(r"(\*+)([A-Za-z]{1,8})(\*+)", line)
            right = found and len(line) == 34 and len(found[3]) - len(found[1]) == len(found[2]) % 2
        else:
            found = re.fullmatch(r"[a-z]{1,8} *(0|[1-9][0-9]{0,2}(,[0-9]{3})*)", line)
            right = found and len(line) == 34 and re.fullmatch(r"[a-z]+ *", line[:8])
        if not right:
            return row
    return None


class Printing(unittest.TestCase):
    def test_line_by_line(self):
        self.assertEqual(receipt(DayShop(OFFER, 7, 0, 3), Stock(1234, cap=5, rag=7)).split("\n"), [
            "***************day****************",
            "full                         1,234",
            "empty                            0",
            "cap                              5",
            "visits                          13",
            "given                        1,728",
            "drunk                        2,962",
        ])

    def test_by_hand(self):
        chance = random.Random(21)
        for trades in OFFERS:
            offer = Offer(*trades)
            for shop in [Shop(offer), LimitedShop(offer, 1234), ChosenShop(offer, offer.kinds[-1]), ChosenShop(offer),
                         DayShop(offer, 28, 13, 27), DayShop(offer, 3)]:
                for full in [0, 1, 99, *MANY]:
                    pieces = {kind: chance.choice([0, 1, 1000, *MANY]) for kind in offer.kinds}
                    for stock in [Stock(full), Stock(full, rag=9, **pieces)]:
                        text = receipt(shop, stock)
                        self.assertIs(type(text), str)
                        self.assertEqual(text, printed_receipt(shop, stock))
                        self.assertEqual({len(line) for line in text.split("\n")}, {34})

    def test_first_lines(self):
        for shop in SHOPS:
            first = receipt(shop, Stock(3)).split("\n")[0]
            self.assertEqual(first, TITLES[shop.KIND])
            before, after = first.split(shop.KIND)
            self.assertEqual(len(after) - len(before), len(shop.KIND) % 2)

    def test_numbers_of_any_length(self):
        for number, text in [(0, "0"), (7, "7"), (999, "999"), (1000, "1,000"), (123456, "123,456"),
                             (1234567, "1,234,567"), (MOST - 1, "999,999,999,999,999,999"),
                             (MOST, "1,000,000,000,000,000,000")]:
            lines = receipt(Shop(OFFER), Stock(number, cap=number)).split("\n")
            self.assertEqual(lines[1], "full    " + text.rjust(26))
            self.assertEqual(lines[3], "cap     " + text.rjust(26))

    def test_the_greatest_numbers_fill_the_line(self):
        offer = Offer(("a", 0, 1), ("b", 0, 1), ("c", 9, 10))
        lines = receipt(Shop(offer), Stock(MOST, a=MOST, b=MOST, c=MOST)).split("\n")
        self.assertEqual(lines[-1], "drunk   30,999,999,999,999,999,991")

    def test_all_kinds_of_the_offer_in_order(self):
        offer = Offer(("zz", 1, 9), ("a", 0, 1), ("abcdefgh", 1, 9))
        for shop in [Shop(offer), ChosenShop(offer, "a"), LimitedShop(offer, 0)]:
            lines = receipt(shop, Stock(3, abcdefgh=1, rag=6, zz=2)).split("\n")
            self.assertEqual([line[:8] for line in lines[1:5]], ["full    ", "zz      ", "a       ", "abcdefgh"])
            self.assertEqual([int(line[8:]) for line in lines[1:5]], [3, 2, 0, 1])
            self.assertEqual([line[:8].strip() for line in lines[5:]], ["visits", "given", "drunk"])

    def test_a_kind_called_full(self):
        lines = receipt(Shop(Offer(("full", 1, 3))), Stock(10)).split("\n")
        self.assertEqual(lines[1:3], [printed("full", 10), printed("full", 0)])

    def test_nothing(self):
        text = receipt(Shop(OFFER), Stock())
        self.assertEqual(text.split("\n")[1:], [printed(label, 0) for label in
                                                ["full", "empty", "cap", "visits", "given", "drunk"]])

    def test_visits_are_the_days_on_which_bottles_were_given(self):
        for shop, stock, visits in [(Shop(OFFER), Stock(2), 0), (Shop(OFFER), Stock(3), 2),
                                    (DayShop(OFFER, 7, 0), Stock(10), 5), (LimitedShop(OFFER, 6), Stock(10), 2),
                                    (DayShop(OFFER, 7), Stock(10), 0), (Shop(OFFER), Stock(0, cap=4), 1)]:
            self.assertEqual(dict(parse_receipt(receipt(shop, stock))[1])["visits"], visits)


class Reading(unittest.TestCase):
    def test_what_was_printed(self):
        for trades in OFFERS:
            offer = Offer(*trades)
            for shop in [Shop(offer), LimitedShop(offer, 7), ChosenShop(offer), DayShop(offer, 5, 2)]:
                for full in [0, 3, 50, *MANY]:
                    stock = Stock(full, **{offer.kinds[0]: 12})
                    days = list(shop.days(stock, 0))
                    numbers = [("full", full), *[(kind, stock[kind]) for kind in offer.kinds],
                               ("visits", sum(given > 0 for _, _, given in days)),
                               ("given", sum(given for _, _, given in days)), ("drunk", shop(stock))]
                    self.assertEqual(parse_receipt(receipt(shop, stock)), (shop.KIND, numbers))

    def test_kinds_of_values(self):
        told = parse_receipt(receipt(Shop(OFFER), Stock(3)))
        self.assertEqual([type(told), type(told[0]), type(told[1])], [tuple, str, list])
        for line in told[1]:
            self.assertEqual([type(line), type(line[0]), type(line[1])], [tuple, str, int])

    def test_whatever_the_labels_and_however_many_lines(self):
        chance = random.Random(22)
        for many in [0, 1, 2, 30, 500]:
            labels = ["".join(chance.choices("abcxyz", k=chance.randint(1, 8))) for _ in range(many)]
            lines = [(label, chance.randrange(10 ** chance.randint(1, 20))) for label in labels]
            text = "\n".join([TITLES["shop"], *[printed(label, number) for label, number in lines]])
            self.assertEqual(parse_receipt(text), ("shop", lines))
        same = [("drink", 1), ("drink", 1), ("full", 2), ("full", 3), ("a", 10 ** 20 - 1)]
        text = "\n".join([TITLES["day"], *[printed(label, number) for label, number in same]])
        self.assertEqual(parse_receipt(text), ("day", same))

    def test_words_of_one_to_eight_letters(self):
        for word in ["a", "z", "ab", "abc", "drink", "abcdefg", "zzzzzzzz", "Kiosk", "SHOP", "A", "Z", "AZaz"]:
            stars = 34 - len(word)
            left, right = "*" * (stars // 2), "*" * (stars - stars // 2)
            self.assertEqual(parse_receipt(left + word + right), (word, []))
            self.assertEqual(parse_receipt(left + word + right + "\n" + printed("a", 5)), (word, [("a", 5)]))
            if stars % 2:
                self.assert_wrong(right + word + left, 0)

    def assert_wrong(self, text, row):
        with self.assertRaises(InvalidReceipt) as caught:
            parse_receipt(text)
        self.assertEqual(caught.exception.row, row, text)

    def test_wrong_first_lines(self):
        rest = "\n" + printed("full", 3)
        for first in ["", "shop", "*" * 34, "*" * 12 + "abcdefghi" + "*" * 13, " " * 15 + "shop" + " " * 15,
                      "*" * 14 + "shop" + "*" * 16, "*" * 16 + "shop" + "*" * 14, "*" * 14 + "shop" + "*" * 15,
                      "*" * 15 + "shop" + "*" * 16, "*" * 16 + "shop" + "*" * 16, "*" * 15 + "sh*p" + "*" * 15,
                      "*" * 15 + "sh p" + "*" * 15, "*" * 15 + "sh0p" + "*" * 15, "*" * 15 + "sh-p" + "*" * 15,
                      "*" * 15 + "sh@p" + "*" * 15, "*" * 15 + "sh[p" + "*" * 15, "*" * 15 + "sh`p" + "*" * 15,
                      "*" * 15 + "sh{p" + "*" * 15, "*" * 15 + "sh\u00f6p" + "*" * 15,
                      "*" * 14 + " shop " + "*" * 14, " " + TITLES["shop"], TITLES["shop"] + " ",
                      TITLES["shop"] + "\r", printed("full", 3), "*" * 30 + "shop", "shop" + "*" * 30,
                      "*" * 16 + "day" + "*" * 15, "*" * 14 + "limited" + "*" * 13, "x" * 5000, "*" * 5000]:
            self.assert_wrong(first, 0)
            self.assert_wrong(first + rest, 0)
            self.assert_wrong(first + rest + "\nwrong", 0)

    def test_wrong_other_lines(self):
        right = [printed("full", 3), printed("cap", 1000)]
        for line in ["", " " * 34, "full", "full 10", "full" + " " * 30, " " * 33 + "3", TITLES["shop"],
                     "full" + " " * 28 + "3", "full" + " " * 30 + "3", "Full" + " " * 29 + "3",
                     "full1" + " " * 28 + "3", "fu ll" + " " * 28 + "3", " full" + " " * 28 + "3",
                     "full" + " " * 29 + "x", "full" + " " * 29 + "-", "full" + " " * 28 + "-3",
                     "full" + " " * 28 + "+3", "full" + " " * 28 + "03", "full" + " " * 28 + "00",
                     "full" + " " * 28 + "3 ", "full" + " " * 26 + "1000", "full" + " " * 25 + "10,00",
                     "full" + " " * 26 + ",100", "full" + " " * 24 + "1,,000", "full" + " " * 25 + "1,00,",
                     "full" + " " * 25 + "0,100", "full" + " " * 25 + "1.000", "full" + " " * 25 + "1_000",
                     "full" + " " * 25 + "1 000", "full" + " " * 26 + "1e10", "full" + " " * 27 + "3.0",
                     "full" + " " * 29 + "\u0663", "full" + " " * 29 + "\u00b2", "f\u00fcll" + " " * 29 + "3",
                     "full\t" + " " * 28 + "3", "full" + " " * 28 + "\t3", printed("full", 3) + "\r",
                     "abcdefghi" + " " * 24 + "3", "full" + "0" * 30, "full3" + " " * 29, "full    " + "9" * 26,
                     "full" + "9" * 5000, "full    " + "9" * 5000, "full " + "1" * 29,
                     "full   1,000,000,000,000,000,000,000",
                     "full   3" + " " * 26, "full   3" + " " * 25 + "3", "full" + " " * 30 + ","]:
            self.assert_wrong("\n".join([TITLES["shop"], line]), 1)
            self.assert_wrong("\n".join([TITLES["shop"], line, *right]), 1)
            self.assert_wrong("\n".join([TITLES["shop"], *right, line]), 3)
            self.assert_wrong("\n".join([TITLES["shop"], *right, line, line]), 3)

    def test_line_feeds(self):
        text = receipt(Shop(OFFER), Stock(10))
        many = len(text.split("\n"))
        self.assert_wrong("", 0)
        self.assert_wrong("\n" + text, 0)
        self.assert_wrong(text + "\n", many)
        self.assert_wrong(text.replace("\n", "\n\n"), 1)
        self.assert_wrong(text.replace("\n", "\r\n"), 0)
        self.assert_wrong(text.replace("\n", " "), 0)

    def test_single_signs_changed(self):
        for shop in SHOPS:
            text = receipt(shop, Stock(1234567, cap=1000))
            for at in range(len(text)):
                for sign in "aqX* ,018-\n":
                    self.assert_as_expected(text[:at] + sign + text[at + 1:])
                    self.assert_as_expected(text[:at] + sign + text[at:])
                self.assert_as_expected(text[:at] + text[at + 1:])

    def test_lines_changed(self):
        chance = random.Random(23)
        lines = receipt(Shop(OFFER), Stock(10 ** 9)).split("\n")
        for _ in range(500):
            changed = list(lines)
            for _ in range(chance.randint(1, 3)):
                at = chance.randrange(len(changed))
                changed[at] = chance.choice([changed[at - 1], changed[at][1:] + " ", changed[at].upper(), "",
                                             changed[at], printed("abc", 10 ** 19), printed("abc", 0)[1:],
                                             TITLES["day"]])
            self.assert_as_expected("\n".join(changed))

    def assert_as_expected(self, text):
        row = wrong_row(text)
        if row is not None:
            self.assert_wrong(text, row)
            return
        word, numbers = parse_receipt(text)
        lines = text.split("\n")
        self.assertEqual(word, lines[0].replace("*", ""))
        self.assertEqual([printed(label, number) for label, number in numbers], lines[1:])


if __name__ == "__main__":
    unittest.main()
