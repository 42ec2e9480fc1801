"""Families and books, read from their texts."""

from lookcrowd.errors import DoubleName, DoubleRule, InvalidName, InvalidRule, Unreadable
from lookcrowd.families import Family, is_box
from lookcrowd.greatest import are_greatest
from lookcrowd.rules import Book

DIGITS = "0123456789"


def read_family(text):
    """The family with a text."""
    head, *parts = text.split("; ")
    boxes = [read_box(part) for part in parts]
    if not is_numeral(head) or head == "0" or None in boxes:
        raise Unreadable(text)
    kinds = int(head)
    if not all([is_box(box, kinds) for box in boxes]) or not are_greatest(boxes):
        raise Unreadable(text)
    return Family(kinds, boxes)


def read_box(text):
    """The list of the ranges in a text; None if it tells something else."""
    pairs = [read_pair(word) for word in text.split(" ")]
    return None if None in pairs else pairs


def read_pair(word):
    """The least and the most number of a range; None if a word tells none."""
    least, dots, most = word.partition("..")
    if not dots or not is_numeral(least) or most and not is_numeral(most):
        return None
    return (int(least), int(most) if most else None)


def is_numeral(word):
    """True for one or two digits, the first of two of which is not zero."""
    if not 1 <= len(word) <= 2 or not all([sign in DIGITS for sign in word]):
        return False
    return len(word) == 1 or word[0] != "0"


def read_book(text):
    """The book with a text."""
    head, *parts = text.split("; ")
    rules = [read_rule(part) for part in parts]
    if None in rules:
        raise Unreadable(text)
    try:
        book = Book(head.split(" "), rules)
    except (InvalidName, DoubleName, InvalidRule, DoubleRule):
        raise Unreadable(text) from None
    if book.rules != rules:
        raise Unreadable(text)
    return book


def read_rule(text):
    """The rule of a text; None if it tells something else."""
    words = text.split(" ")
    if len(words) != 4 or words[1] != "sees" or words[2][-1:] != ":":
        return None
    return (words[0], words[2][:-1], words[3])
