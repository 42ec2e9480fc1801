"""Texts of drawn families and books, and texts near to them, against the words of the document."""

import random
import re
import unittest

from plain import (
    NAMES, all_rules, box_key, crowds_below, draw_box, draw_boxes, draw_near, draw_rules, greatest_boxes,
    greatest_number, lies_in)

from lookcrowd.errors import Unreadable
from lookcrowd.families import Family
from lookcrowd.readings import read_book, read_family
from lookcrowd.rules import Book, can_do, follows, least_rules, needless
from lookcrowd.texts import show_book, show_family

LONG_NAMES = ["sees", "abcdefgh", "zz", "q", "ab", "ba", "aa", "look", "a", "b"]
SIGNS = "0123456789.; :,-+_abcsexzAZ~!\"'()[]{}\\/"
NUMBER = "(?:[0-9]|[1-9][0-9])"
RANGE = NUMBER + r"\.\." + NUMBER + "?"
FAMILY = re.compile("([1-9]|[1-9][0-9])((?:;(?: " + RANGE + ")+)*)")
NAME = "[a-z]{1,8}"
BOOK = re.compile("(" + NAME + "(?: " + NAME + ")*)((?:; " + NAME + " sees " + NAME + ": " + NAME + ")*)")


def text_of_family(kinds, boxes):
    """The text of a family with these greatest boxes."""
    text = str(kinds)
    for box in boxes:
        text += ";"
        for least, most in box:
            text += " " + str(least) + ".." + ("" if most is None else str(most))
    return text


def text_of_book(kinds, rules):
    """The text of a book with these rules, in order."""
    text = " ".join(kinds)
    for kind, seen, new in rules:
        text += "; " + kind + " sees " + seen + ": " + new
    return text


def pair_of(word):
    least, most = word.split("..")
    return (int(least), int(most) if most else None)


def family_with(text):
    """The number of kinds and the boxes of the family that has a text; None if none has."""
    found = FAMILY.fullmatch(text)
    if found is None:
        return None
    kinds = int(found[1])
    boxes = [[pair_of(word) for word in part.split()] for part in found[2].split(";")[1:]]
    if any(len(box) != kinds for box in boxes):
        return None
    if any(most is not None and most < least for box in boxes for least, most in box):
        return None
    return (kinds, boxes) if are_greatest(kinds, boxes) else None


def are_greatest(kinds, boxes):
    """True if boxes are the greatest ones of their family: by trying all, where they are not too many."""
    last = greatest_number(boxes) + 1
    if last <= {1: 12, 2: 6}.get(kinds, 3) and kinds <= 3:
        inside = {crowd for crowd in crowds_below(kinds, last + 1) if lies_in(boxes, crowd)}
        return greatest_boxes(kinds, inside, last) == boxes
    return Family(kinds, boxes).boxes == boxes


def book_with(text):
    """The kinds and the rules of the book that has a text; None if none has."""
    found = BOOK.fullmatch(text)
    if found is None:
        return None
    kinds = found[1].split()
    rules = [tuple(part.replace(" sees ", " ", 1).replace(":", "").split()) for part in found[2].split("; ")[1:]]
    if len(set(kinds)) < len(kinds) or any(name not in kinds for rule in rules for name in rule):
        return None
    places = [tuple(kinds.index(name) for name in rule) for rule in rules]
    if any(kind == new for kind, _, new in places) or places != sorted(set(places)):
        return None
    return kinds, rules


def other_sign(drawn, text):
    """A text with one sign put in, taken out or exchanged."""
    at, sign = drawn.randrange(len(text)), drawn.choice(SIGNS)
    return drawn.choice([text[:at] + sign + text[at:], text + sign, text[:at] + text[at + 1:],
                         text[:at] + sign + text[at + 1:], text[:at] + text[at:at + 1] + text[at:]])


def other_parts(drawn, text):
    """A text of which two parts are exchanged, one is left out, one stands twice, or one is cut short."""
    by = drawn.choice(["; ", "; ", " ", "..", ": "])
    parts = text.split(by)
    one, other = drawn.randrange(len(parts)), drawn.randrange(len(parts))
    way = drawn.randrange(5)
    if way <= 1:
        parts[one], parts[other] = parts[other], parts[one]
    elif way == 2:
        parts.pop(one)
    elif way == 3:
        parts.insert(other, parts[one])
    else:
        parts[one] = parts[one][:drawn.randint(0, len(parts[one]))]
    return by.join(parts)


class Families(unittest.TestCase):

    def draw(self, drawn):
        """A family within the bounds of those that are read."""
        while True:
            kinds, top = drawn.choice([1, 2, 3]), drawn.choice([1, 2, 3, 20])
            family = Family(kinds, draw_boxes(drawn, kinds, drawn.randint(0, 4), top))
            other = Family(kinds, draw_boxes(drawn, kinds, drawn.randint(0, 2), top))
            family = drawn.choice([family, family, family, family & other, family | other, family - other, ~family])
            if len(family) <= 8:
                return family

    def check_text(self, text):
        """Reading a text tells what it should."""
        wanted = family_with(text)
        if wanted is not None:
            told = read_family(text)
            self.assertEqual([told.kinds, told.boxes], list(wanted))
            self.assertEqual(show_family(told), text)
            return True
        with self.assertRaises(Unreadable, msg=text) as caught:
            read_family(text)
        self.assertEqual(caught.exception.value, text)
        return False

    def test_there_and_back(self):
        drawn = random.Random(131)
        for case in range(3000):
            family = self.draw(drawn)
            text = show_family(family)
            self.assertEqual(text, text_of_family(family.kinds, family.boxes))
            told = read_family(text)
            self.assertTrue(told == family)
            self.assertEqual(show_family(told), text)
            other = self.draw(drawn)
            if other.kinds == family.kinds:
                for ask in (lambda one: one & other, lambda one: other - one, lambda one: one | other,
                            lambda one: ~one, lambda one: one.within(other), lambda one: one.first(),
                            lambda one: one.bound()):
                    self.assertTrue(ask(told) == ask(family))

    def test_none_and_all(self):
        for kinds in (1, 2, 3):
            none = Family(kinds, [])
            self.assertEqual([show_family(none), show_family(~none)], [str(kinds), str(kinds) + ";" + " 0.." * kinds])
            self.assertTrue(read_family(show_family(none)) == none)
            self.assertTrue(read_family(show_family(~none)) == ~none)
        for kinds in range(1, 100):
            self.assertEqual(show_family(read_family(str(kinds))), str(kinds))

    def test_texts_near_to_those_of_families(self):
        drawn = random.Random(132)
        met = {True: 0, False: 0}
        for case in range(8000):
            text = show_family(self.draw(drawn))
            for _ in range(drawn.choice([1, 1, 1, 2])):
                text = drawn.choice([other_sign, other_parts])(drawn, text or "1")
            met[self.check_text(text)] += 1
        self.assertGreater(min(met.values()), 500)

    def test_boxes_near_to_the_greatest(self):
        """Texts of other boxes: near ones, more, less, twice, out of order."""
        drawn = random.Random(133)
        met = {True: 0, False: 0}
        for case in range(6000):
            kinds, top = drawn.choice([1, 2, 3]), drawn.choice([1, 2, 3, 9, 20])
            boxes = draw_boxes(drawn, kinds, drawn.randint(1, 4), top)
            if drawn.random() < 0.8:
                boxes = Family(kinds, boxes).boxes[:8]
            way = drawn.randrange(6)
            if way == 0:
                boxes.append(draw_near(drawn, drawn.choice(boxes), top))
            elif way == 1:
                at = drawn.randrange(len(boxes))
                boxes[at] = draw_near(drawn, boxes[at], top)
            elif way == 2:
                boxes.append(drawn.choice(boxes))
            elif way == 3:
                boxes.pop(drawn.randrange(len(boxes)))
            elif way == 4:
                boxes.append(draw_box(drawn, kinds, top))
            if drawn.random() < 0.8:
                boxes = sorted(boxes, key=box_key)
            else:
                drawn.shuffle(boxes)
            met[self.check_text(text_of_family(kinds, boxes))] += 1
        self.assertGreater(min(met.values()), 1000)


class Books(unittest.TestCase):

    def draw(self, drawn):
        kinds = drawn.sample(drawn.choice([NAMES, LONG_NAMES]), drawn.randint(1, 8))
        rules = draw_rules(drawn, kinds, 8)
        return kinds, [rule for rule in all_rules(kinds) if rule in rules]

    def check_text(self, text):
        wanted = book_with(text)
        if wanted is not None:
            told = read_book(text)
            self.assertEqual([told.kinds, told.rules], list(wanted))
            self.assertEqual(show_book(told), text)
            return True
        with self.assertRaises(Unreadable, msg=text) as caught:
            read_book(text)
        self.assertEqual(caught.exception.value, text)
        return False

    def test_there_and_back(self):
        drawn = random.Random(134)
        for case in range(1500):
            kinds, rules = self.draw(drawn)
            book = Book(kinds, drawn.sample(rules, len(rules)))
            text = show_book(book)
            self.assertEqual(text, text_of_book(kinds, rules))
            told = read_book(text)
            self.assertTrue(told == book)
            self.assertEqual(show_book(told), text)
            crowd = [drawn.randint(0, 2) for _ in kinds]
            self.assertEqual([told.kinds, told.rules, can_do(told, crowd), needless(told)],
                             [kinds, rules, can_do(book, crowd), needless(book)])
            if case % 20 == 0:
                self.assertEqual(least_rules(told), least_rules(book))
            for rule in rules[:1]:
                self.assertTrue(told.without(rule) == book.without(rule))
                self.assertIs(follows(told.without(rule), rule), follows(book.without(rule), rule))

    def test_texts_near_to_those_of_books(self):
        drawn = random.Random(135)
        met = {True: 0, False: 0}
        for case in range(10000):
            text = text_of_book(*self.draw(drawn))
            for _ in range(drawn.choice([1, 1, 1, 2])):
                text = drawn.choice([other_sign, other_parts])(drawn, text or "a")
            met[self.check_text(text)] += 1
        self.assertGreater(min(met.values()), 500)

    def test_rules_near_to_right_ones(self):
        """Rules out of order, told twice, of unknown kinds, or such that the new kind is the kind."""
        drawn = random.Random(136)
        met = {True: 0, False: 0}
        for case in range(4000):
            kinds, rules = self.draw(drawn)
            way = drawn.randrange(6)
            if way == 0:
                drawn.shuffle(rules)
            elif way == 1 and rules:
                rules.insert(drawn.randint(0, len(rules)), drawn.choice(rules))
            elif way == 2:
                rules.append(tuple(drawn.choice(kinds + ["x", "sees"]) for _ in range(3)))
            elif way == 3:
                kinds.insert(drawn.randint(0, len(kinds)), drawn.choice(kinds))
            elif way == 4:
                drawn.shuffle(kinds)
            elif len(kinds) > 1:
                kinds.pop()
            met[self.check_text(text_of_book(kinds, rules))] += 1
        self.assertGreater(min(met.values()), 800)


if __name__ == "__main__":
    unittest.main()
