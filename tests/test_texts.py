"""The interface of texts and readings: ordinary texts, edges, and texts that nothing has."""

import unittest

from lookcrowd.errors import CrowdError, Unreadable
from lookcrowd.families import Family
from lookcrowd.readings import read_book, read_family
from lookcrowd.rules import Book, can_do
from lookcrowd.texts import show_book, show_family

FAMILIES = [
    (1, [], "1"), (2, [], "2"), (3, [], "3"), (8, [], "8"), (10, [], "10"), (99, [], "99"),
    (1, [[(0, None)]], "1; 0.."),
    (1, [[(0, 0)]], "1; 0..0"),
    (1, [[(7, 20)], [(0, 3)]], "1; 0..3; 7..20"),
    (1, [[(0, 2)], [(3, 5)]], "1; 0..5"),
    (1, [[(10, 99)]], "1; 10..99"),
    (1, [[(99, None)]], "1; 99.."),
    (2, [[(0, 2), (1, None)]], "2; 0..2 1.."),
    (2, [[(0, None), (0, None)]], "2; 0.. 0.."),
    (2, [[(1, None), (1, None)], [(0, 0), (2, 3)]], "2; 0.. 2..3; 1.. 1.."),
    (2, [[(0, None), (0, 0)], [(0, 2), (0, 1)]], "2; 0..2 0..1; 0.. 0..0"),
    (3, [[(0, 1), (0, 0), (0, None)], [(0, 0), (0, 1), (2, 2)]], "3; 0..0 0..1 2..2; 0..1 0..0 0.."),
    (4, [[(0, 1), (2, None), (3, 3), (4, 12)]], "4; 0..1 2.. 3..3 4..12"),
]
BOOKS = [
    (["a"], [], "a"),
    (["abcdefgh"], [], "abcdefgh"),
    (["b", "a"], [], "b a"),
    (["a", "b"], [("a", "b", "b")], "a b; a sees b: b"),
    (["b", "a"], [("a", "b", "b"), ("b", "b", "a"), ("a", "a", "b")], "b a; b sees b: a; a sees b: b; a sees a: b"),
    (["sees", "see"], [("sees", "sees", "see"), ("see", "sees", "sees")],
     "sees see; sees sees sees: see; see sees sees: sees"),
    (["a", "b", "c", "d", "e", "f", "g", "h"], [("h", "a", "b"), ("a", "h", "c")],
     "a b c d e f g h; a sees h: c; h sees a: b"),
]
NO_FAMILIES = [
    "", " ", ";", "; ", "0", "00", "01", "1 ", " 1", "1;", "1; ", "1;0..", "1;  0..", "1 ; 0..", "1; 0.. ", "1; 0..;",
    "1; 0..; ", "1; 0.", "1; 0", "1; 0...", "1; ..", "1; ..3", "1; 0..3..", "1; 0..3..5", "1; 0. .", "1; 0 ..",
    "1; 0.. 3", "100", "1; 0..100", "1; 100..", "1; 00..", "1; 0..03", "1; 03..", "1; 01..2", "1; 0..00", "1; -1..",
    "1; 0..-1", "1; +1..", "1; 1_0..", "x", "a", "1; a..", "1; 0..b", "1; 0..None", "1; None..", "1; (0, 1)", "[]", "1, 0..",
    "1; 3..2", "2; 0..; 0..", "1; 0.. 0..", "2; 0..", "2; 0.. 0.. 0..", "2; 0..1 3..2", "0; 0..", "0; ", "3; 0.. 0..",
    # Boxes that are not the greatest ones, that touch, overlap or lie in others, out of order, or twice.
    "1; 0..2; 3..5", "1; 0..2; 2..5", "1; 0..5; 2..3", "1; 0..; 3..", "1; 3..; 0..", "1; 7..20; 0..3", "1; 0..3; 0..3",
    "1; 0..3; 0..5", "1; 0..; 0..", "2; 0..2 1..; 0..2 1..", "2; 1.. 1..; 0..0 2..3", "2; 0..0 2..3; 1.. 1..",
    "2; 0.. 2..3; 1.. 1..; 0..0 2..3", "2; 0..1 0..; 2.. 0..", "2; 0.. 0..1; 0..1 0..", "2; 0..1 0..; 0..1 0..2",
    "2; 0..2 0..0; 2..4 0..1",
    # The box without a most number belongs behind the other one.
    "2; 0.. 0..0; 0..2 0..1",
]
NO_BOOKS = [
    "", " ", ";", "; ", "1", "A", "a ", " a", "a  b", "abcdefghi", "a, b", "a a", "a b a", "a b;", "a b; ", "ab1",
    "a-b", "a b; a sees b: c", "a b; c sees b: a", "a b; a sees c: b", "a b; a sees b: a", "a b; b sees b: b",
    "a b;a sees b: b", "a b;  a sees b: b", "a b ; a sees b: b", "a b; a sees b:b", "a b; a sees b : b",
    "a b; a sees b b", "a b; a sees b: b ", "a b; a sees b: b;", "a b; a sees b: b; ", "a b; a  sees b: b",
    "a b; a sees  b: b", "a b; a sees b:  b", "a b; a see b: b", "a b; a SEES b: b", "a b; a b: b", "a b; a sees: b",
    "a b; a sees b:", "a b; a sees b: b b", "a b; a: sees b: b", "a b; a sees b:: b", "a b; sees b: b",
    "a b; a sees b; b", "; a sees b: b", "a b; a sees b: b; a sees b: b", "a b; a sees b: b; a sees a: b",
    "a b; b sees a: a; a sees a: b", "b a; a sees b: b; b sees a: a", "a b, a sees b: b",
    "a b; a sees b: b, b sees a: a", "a b; : sees b: b", "a b; a sees :: b", "a b; a sees : b", "a b; (a, b, b)",
    "a b: a sees b: b", "a b; a sees b: b; ; b sees a: a",
]


class Texts(unittest.TestCase):

    def test_families(self):
        for kinds, boxes, text in FAMILIES:
            self.assertEqual(show_family(Family(kinds, boxes)), text)
            self.assertEqual(show_family(family=Family(kinds, boxes[::-1])), text)

    def test_families_that_signs_make(self):
        few, some = Family(2, [[(0, 1), (0, None)]]), Family(2, [[(1, None), (1, None)], [(0, 0), (2, 3)]])
        self.assertEqual(show_family(few & some), "2; 0..1 2..3; 1..1 1..")
        self.assertEqual(show_family(~few), "2; 2.. 0..")
        self.assertEqual(show_family(few - few), "2")
        self.assertEqual(show_family(few | ~few), "2; 0.. 0..")
        # Numbers that cannot be read are shown nevertheless.
        self.assertEqual(show_family(Family(1, [[(100, 1234)]])), "1; 100..1234")

    def test_books(self):
        for kinds, rules, text in BOOKS:
            self.assertEqual(show_book(Book(kinds, rules)), text)
            self.assertEqual(show_book(book=Book(kinds, rules[::-1])), text)


class Readings(unittest.TestCase):

    def test_families(self):
        for kinds, boxes, text in FAMILIES:
            family = Family(kinds, boxes)
            for told in (read_family(text), read_family(text=text)):
                self.assertIs(type(told), Family)
                self.assertTrue(told == family)
                self.assertEqual([told.kinds, told.boxes, len(told)], [kinds, family.boxes, len(family)])
                self.assertEqual(show_family(told), text)

    def test_books(self):
        for kinds, rules, text in BOOKS:
            book = Book(kinds, rules)
            for told in (read_book(text), read_book(text=text)):
                self.assertIs(type(told), Book)
                self.assertTrue(told == book)
                self.assertEqual([told.kinds, told.rules, len(told)], [kinds, book.rules, len(rules)])
                self.assertEqual(show_book(told), text)

    def test_what_is_read_answers_alike(self):
        book = read_book("b a; b sees b: a; a sees b: b")
        self.assertEqual(can_do(book, [1, 1]), [("a", "b", "b")])
        self.assertTrue(book.without(("a", "b", "b")) == read_book("b a; b sees b: a"))
        family = read_family("2; 0..2 1..; 0..3 1..4")
        self.assertEqual([family.has([3, 4]), family.has([3, 5]), family.first(), family.bound()],
                         [True, False, [0, 1], 5])
        self.assertEqual(show_family(~family), "2; 0.. 0..0; 3.. 5..; 4.. 0..")
        self.assertTrue(~~family == family)

    def test_each_reading_is_new(self):
        one, other = read_family("2; 0..2 1.."), read_family("2; 0..2 1..")
        self.assertIsNot(one, other)
        one.boxes[0].clear()
        self.assertEqual(other.boxes, [[(0, 2), (1, None)]])
        book = read_book("a b; a sees b: b")
        book.rules.clear()
        book.kinds.clear()
        self.assertEqual(show_book(book), "a b; a sees b: b")

    def test_great_books(self):
        letters = "abcdefghijklmnopqrstuvwxyz"
        kinds = [one + other for one in letters for other in letters]
        self.assertEqual(read_book(" ".join(kinds)).kinds, kinds)
        rules = [(kind, seen, new) for kind in "abcdef" for seen in "abcdef" for new in "abcdef" if kind != new]
        text = "a b c d e f" + "".join("; {} sees {}: {}".format(*rule) for rule in rules)
        self.assertEqual(read_book(text).rules, rules)
        self.assertEqual(show_book(read_book(text)), text)


class Wrong(unittest.TestCase):

    def refuse(self, ask, text):
        with self.assertRaises(Unreadable) as caught:
            ask(text)
        self.assertIs(type(caught.exception), Unreadable)
        self.assertEqual(caught.exception.value, text)
        with self.assertRaises(Unreadable):
            ask(text=text)

    def test_no_families(self):
        for text in NO_FAMILIES + [text for _, _, text in BOOKS]:
            with self.subTest(text=text):
                self.refuse(read_family, text)

    def test_no_books(self):
        for text in NO_BOOKS + [text for _, _, text in FAMILIES]:
            with self.subTest(text=text):
                self.refuse(read_book, text)

    def test_long_texts(self):
        for text in ("a" * 3000, " " * 3000, ";" * 3000, "; " * 1500, "0" * 3000, "9" * 3000, "." * 3000,
                     "1; " + "0" * 2990, "1" + "; 0..1" * 499, "1" + "; 0.. " * 499, "a" + " a" * 1499,
                     "a" + "; a sees a: a" * 230,
                     "99" + "; 0.." * 599, "9; " + " ".join(["0..1"] * 599)):
            self.refuse(read_family, text)
            self.refuse(read_book, text)

    def test_many_kinds(self):
        """To find that boxes of many kinds are not in order, or not the greatest, takes no long time either."""
        wide = ["..".join([str(at), str(at + 5)]) for at in range(9)]
        rows = [" ".join(wide[at:] + wide[:at]) for at in range(9)]
        self.refuse(read_family, "; ".join(["9"] + rows[::-1]))
        self.refuse(read_family, "; ".join(["9"] + rows + rows[:1]))
        self.refuse(read_family, "; ".join(["9"] + rows + [" ".join(["9..12"] * 9)]))
        # The first two of these share a range of each kind, and the third one ends where the second one goes on.
        near = [" ".join(["0..9"] * 8 + [last]) for last in ("0..2", "3..5")]
        self.refuse(read_family, "; ".join(["9"] + near + rows[5:6]))

    def test_the_class_of_the_error(self):
        self.assertEqual(Unreadable.__mro__[:3], (Unreadable, CrowdError, ValueError))


if __name__ == "__main__":
    unittest.main()
