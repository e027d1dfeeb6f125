"""Receipts: what a stock gives at a shop, printed and read."""

from emptiesback.checks import MAX_LABEL_LENGTH, is_label
from emptiesback.errors import InvalidReceipt

LINE_LENGTH = 34


def _title_line(word):
    return f"{word:*^34}"


def _number_line(label, number):
    return f"{label:<8}{number:>26,}"


def receipt(shop, stock):
    """Return the text of what a stock gives at a shop from day 0 on."""
    visits = 0
    given = 0
    drunk = 0
    for _, drunk_then, given_then in shop.days(stock, 0):
        drunk = drunk + drunk_then
        given = given + given_then
        if given_then > 0:
            visits = visits + 1
    pieces = stock.loose
    lines = [_title_line(shop.KIND), _number_line("full", stock.filled)]
    for kind in shop.terms.kinds:
        lines.append(_number_line(kind, pieces.get(kind, 0)))
    for label, number in [("visits", visits), ("given", given), ("drunk", drunk)]:
        lines.append(_number_line(label, number))
    return "\n".join(lines)


def _is_word(text):
    # Unlike that of labels, the letters of this word may be capital ones.
    return 1 <= len(text) <= MAX_LABEL_LENGTH and all(["a" <= sign <= "z" or "A" <= sign <= "Z" for sign in text])


def _word_of(line):
    """Return the word of the first line of a receipt."""
    word = line.strip("*")
    if not _is_word(word) or line != _title_line(word):
        raise InvalidReceipt(0)
    return word


def _entry_of(line, row):
    """Return the (label, number) of another line of a receipt."""
    label = line[:MAX_LABEL_LENGTH].rstrip(" ")
    digits = line[MAX_LABEL_LENGTH:].lstrip(" ").replace(",", "")
    # The length comes first: Python does not read numbers of thousands of digits.
    if len(line) != LINE_LENGTH or not is_label(label) or not (digits.isascii() and digits.isdigit()):
        raise InvalidReceipt(row)
    number = int(digits)
    if line != _number_line(label, number):
        raise InvalidReceipt(row)
    return label, number


def parse_receipt(text):
    """Return (word, list of (label, number)) of the text of a receipt."""
    lines = text.split("\n")
    word = _word_of(lines[0])
    return word, [_entry_of(line, row) for row, line in enumerate(lines[1:], start=1)]
