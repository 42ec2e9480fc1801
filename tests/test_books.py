"""Promises [4], [5] and the interface of books: ordinary inputs, edges and errors."""

import unittest

from lookcrowd.errors import DoubleName, DoubleRule, InvalidCrowd, InvalidName, InvalidRule, NotAble, UnlikeKinds
from lookcrowd.rules import Book, can_do, done, first_unlike, follow, follows, least_rules, needless

WRONG_NAMES = ["", "abcdefghi", "A", "aB", "a1", "7", "a b", " a", "a ", "a-b", "a_b", "a.", "~", "a;", "zzzzzzzzz"]


class Telling(unittest.TestCase):
    """Tests that look at what an error holds."""

    def check(self, error, value, ask, *given):
        with self.assertRaises(error) as caught:
            ask(*given)
        self.assertIs(type(caught.exception), error)
        self.assertEqual(caught.exception.value, value)
        self.assertIs(type(caught.exception.value), type(value))
        return caught.exception.value


class Books(Telling):

    def test_kinds_and_rules(self):
        rules = [("a", "a", "z"), ("m", "z", "a"), ("z", "m", "a"), ("z", "a", "m"), ("z", "m", "m")]
        book = Book(["z", "a", "m"], rules)
        self.assertEqual(book.kinds, ["z", "a", "m"])
        self.assertEqual(book.rules, [rules[3], rules[2], rules[4], rules[0], rules[1]])
        self.assertEqual(len(book), 5)

    def test_order_by_kind_then_seen_then_new(self):
        rules = [("b", "a", "a"), ("a", "c", "b"), ("a", "b", "c"), ("a", "b", "b"), ("a", "a", "c"), ("c", "a", "a")]
        book = Book(["a", "b", "c"], rules)
        self.assertEqual(book.rules, [("a", "a", "c"), ("a", "b", "b"), ("a", "b", "c"), ("a", "c", "b"),
                                      ("b", "a", "a"), ("c", "a", "a")])
        self.assertEqual(Book(["c", "b", "a"], rules).rules,
                         [("c", "a", "a"), ("b", "a", "a"), ("a", "c", "b"), ("a", "b", "c"), ("a", "b", "b"),
                          ("a", "a", "c")])

    def test_no_rules_and_one_kind(self):
        book = Book(["abcdefgh"], [])
        self.assertEqual([book.kinds, book.rules, len(book)], [["abcdefgh"], [], 0])

    def test_eight_kinds(self):
        names = ["h", "g", "f", "e", "d", "c", "b", "a"]
        book = Book(names, [("a", "b", "c"), ("h", "a", "b"), ("h", "a", "c"), ("h", "h", "a")])
        self.assertEqual(book.rules, [("h", "h", "a"), ("h", "a", "c"), ("h", "a", "b"), ("a", "b", "c")])

    def test_invalid_names(self):
        for name in WRONG_NAMES:
            self.check(InvalidName, name, Book, [name], [])
            self.check(InvalidName, name, Book, ["a", "b", name, "c"], [])
        for name in ("a", "z", "az", "abcdefgh", "zzzzzzzz"):
            self.assertEqual(Book([name], []).kinds, [name])

    def test_double_names(self):
        self.check(DoubleName, "a", Book, ["a", "a"], [])
        self.check(DoubleName, "b", Book, ["a", "b", "c", "b"], [])
        self.check(DoubleName, "c", Book, ["a", "b", "c", "c", "b", "a"], [])

    def test_names_are_checked_one_after_the_other(self):
        self.check(DoubleName, "a", Book, ["a", "a", "B"], [])
        self.check(InvalidName, "B", Book, ["a", "B", "a"], [])
        self.check(InvalidName, "B", Book, ["B", "B"], [])
        self.check(InvalidName, "", Book, ["", "A"], [])
        self.check(InvalidName, "A", Book, ["A", ""], [])

    def test_names_are_checked_before_rules(self):
        self.check(InvalidName, "B", Book, ["a", "B"], [("a", "x", "y")])
        self.check(DoubleName, "a", Book, ["a", "b", "a"], [("a", "a", "a"), ("a", "a", "a")])

    def test_invalid_rules(self):
        good = ("a", "b", "b")
        for rule in (("x", "a", "b"), ("a", "x", "b"), ("a", "b", "x"), ("a", "b", "a"), ("b", "b", "b"),
                     ("A", "a", "b"), ("", "a", "b"), ("a", "", "b"), ("a", "b", ""), ("x", "x", "x"), ("ab", "a", "b")):
            self.check(InvalidRule, rule, Book, ["a", "b"], [rule])
            self.check(InvalidRule, rule, Book, ["a", "b"], [good, rule, good])
            self.check(InvalidRule, rule, Book, ["a", "b"], [rule, rule])
        self.check(InvalidRule, ("a", "a", "a"), Book, ["a"], [("a", "a", "a")])

    def test_double_rules(self):
        one, other = ("a", "b", "b"), ("b", "a", "a")
        self.check(DoubleRule, one, Book, ["a", "b"], [one, one])
        self.check(DoubleRule, other, Book, ["a", "b"], [one, other, other, one])
        self.check(DoubleRule, one, Book, ["a", "b"], [one, other, one, other])

    def test_rules_are_checked_one_after_the_other(self):
        one, bad, none = ("a", "b", "b"), ("a", "b", "a"), ("a", "x", "b")
        self.check(DoubleRule, one, Book, ["a", "b"], [one, one, bad])
        self.check(InvalidRule, bad, Book, ["a", "b"], [one, bad, one])
        self.check(InvalidRule, none, Book, ["a", "b"], [none, bad])
        self.check(InvalidRule, bad, Book, ["a", "b"], [bad, none])

    def test_without(self):
        one, other = ("a", "b", "b"), ("b", "a", "a")
        book = Book(["a", "b"], [other, one])
        left = book.without(one)
        self.assertIsInstance(left, Book)
        self.assertEqual([left.kinds, left.rules, len(left)], [["a", "b"], [other], 1])
        self.assertEqual([book.rules, len(book)], [[one, other], 2])
        self.assertEqual(left.without(other).rules, [])
        self.assertEqual(book.without(other).rules, [one])

    def test_without_a_rule_that_is_not_there(self):
        book = Book(["a", "b"], [("a", "b", "b")])
        for rule in (("b", "a", "a"), ("a", "a", "b"), ("a", "b", "a"), ("x", "b", "b"), ("a", "x", "b")):
            self.check(InvalidRule, rule, book.without, rule)
        self.check(InvalidRule, ("a", "b", "b"), book.without(("a", "b", "b")).without, ("a", "b", "b"))
        self.assertEqual(book.rules, [("a", "b", "b")])

    def test_equality(self):
        one, other = ("a", "b", "b"), ("b", "a", "a")
        book = Book(["a", "b"], [one, other])
        self.assertTrue(book == Book(["a", "b"], [other, one]))
        self.assertFalse(book != Book(["a", "b"], [other, one]))
        for unlike in (Book(["b", "a"], [one, other]), Book(["a", "b"], [one]), Book(["a", "b"], []),
                       Book(["a", "b", "c"], [one, other]), Book(["a", "b"], [one, ("b", "b", "a")])):
            self.assertFalse(book == unlike)
            self.assertTrue(book != unlike)
        # The same indexes over other names.
        self.assertTrue(Book(["a", "b"], [one]) != Book(["a", "c"], [("a", "c", "c")]))
        self.assertTrue(Book(["a", "b"], [one, other]).without(one) == Book(["a", "b"], [other]))

    def test_nothing_else_is_equal(self):
        book = Book(["a", "b"], [])
        for other in (None, 0, 2, "a b", ["a", "b"], [["a", "b"], []], (["a", "b"], []), True, object()):
            self.assertFalse(book == other)
            self.assertFalse(other == book)
            self.assertTrue(book != other)


class Doing(Telling):

    def setUp(self):
        self.book = Book(["a", "b", "c"], [("c", "b", "b"), ("a", "b", "c"), ("a", "a", "b")])

    def test_can_do(self):
        for crowd, rules in (([0, 0, 0], []), ([1, 0, 0], []), ([2, 0, 0], [("a", "a", "b")]),
                             ([1, 1, 0], [("a", "b", "c")]), ([2, 1, 0], [("a", "a", "b"), ("a", "b", "c")]),
                             ([0, 1, 1], [("c", "b", "b")]), ([0, 0, 5], []), ([0, 5, 0], []),
                             ([9, 9, 9], [("a", "a", "b"), ("a", "b", "c"), ("c", "b", "b")])):
            self.assertEqual(can_do(self.book, crowd), rules)

    def test_a_member_does_not_see_itself(self):
        book = Book(["a", "b"], [("a", "a", "b")])
        self.assertEqual(can_do(book, [1, 0]), [])
        self.assertEqual(can_do(book, [1, 7]), [])
        self.assertEqual(can_do(book, [2, 0]), [("a", "a", "b")])
        self.assertEqual(done(book, [2, 0], ("a", "a", "b")), [1, 1])
        self.check(NotAble, ("a", "a", "b"), done, book, [1, 3], ("a", "a", "b"))
        self.assertEqual(follow(book, [3, 0], [("a", "a", "b")] * 2), [1, 2])
        self.check(NotAble, 2, follow, book, [3, 0], [("a", "a", "b")] * 3)

    def test_done(self):
        self.assertEqual(done(self.book, [2, 1, 0], ("a", "b", "c")), [1, 1, 1])
        self.assertEqual(done(self.book, [2, 1, 0], ("a", "a", "b")), [1, 2, 0])
        self.assertEqual(done(self.book, [0, 1, 1], ("c", "b", "b")), [0, 2, 0])

    def test_follow(self):
        self.assertEqual(follow(self.book, [3, 0, 0], []), [3, 0, 0])
        self.assertEqual(follow(Book(["a"], []), [0], []), [0])
        run = [("a", "a", "b"), ("a", "b", "c"), ("c", "b", "b"), ("a", "b", "c")]
        for end, crowd in enumerate([[3, 0, 0], [2, 1, 0], [1, 1, 1], [1, 2, 0], [0, 2, 1]]):
            self.assertEqual(follow(self.book, [3, 0, 0], run[:end]), crowd)

    def test_long_runs(self):
        book = Book(["a", "b", "c"], [("a", "c", "b"), ("b", "c", "a")])
        run = [("a", "c", "b"), ("b", "c", "a")] * 20
        self.assertEqual(follow(book, [1, 0, 1], run), [1, 0, 1])
        self.check(NotAble, 40, follow, book, [1, 0, 1], run + [("b", "c", "a")])

    def test_invalid_crowds(self):
        rule = ("a", "b", "c")
        for crowd in ([], [1, 1], [1, 1, 1, 1], [-1, 1, 1], [1, 1, -1], [-1], [2, 2, 2, -2]):
            for ask, given in ((can_do, []), (done, [rule]), (done, [("x", "y", "z")]), (done, [("c", "a", "a")]),
                               (follow, [[rule]]), (follow, [[]]), (follow, [[("x", "y", "z")]])):
                value = self.check(InvalidCrowd, crowd, ask, self.book, crowd, *given)
                self.assertIsNot(value, crowd)

    def test_done_with_a_rule_that_is_not_there(self):
        for rule in (("c", "a", "a"), ("a", "b", "b"), ("a", "b", "a"), ("x", "b", "c"), ("a", "x", "c"),
                     ("a", "b", "x")):
            for crowd in ([5, 5, 5], [0, 0, 0]):
                self.check(InvalidRule, rule, done, self.book, crowd, rule)

    def test_done_with_a_rule_that_cannot_be_done(self):
        for crowd, rule in (([1, 0, 9], ("a", "b", "c")), ([0, 9, 9], ("a", "b", "c")), ([1, 9, 9], ("a", "a", "b")),
                            ([9, 0, 1], ("c", "b", "b")), ([0, 0, 0], ("c", "b", "b"))):
            self.check(NotAble, rule, done, self.book, crowd, rule)

    def test_follow_to_a_rule_that_cannot_be_done(self):
        make, look = ("a", "a", "b"), ("a", "b", "c")
        self.check(NotAble, 0, follow, self.book, [3, 0, 0], [look, make])
        self.check(NotAble, 2, follow, self.book, [2, 0, 0], [make, look, look, make])
        for strange in (("c", "a", "a"), ("x", "y", "z"), ("a", "a", "a")):
            self.check(NotAble, 0, follow, self.book, [5, 5, 5], [strange])
            self.check(NotAble, 1, follow, self.book, [5, 5, 5], [make, strange, look])
            self.check(NotAble, 0, follow, self.book, [0, 0, 0], [look, strange])


class Following(Telling):

    def test_follows(self):
        book = Book(["a", "b", "c"], [("a", "b", "c"), ("c", "b", "b")])
        self.assertIs(follows(book, ("a", "b", "b")), True)
        self.assertIs(follows(book, ("a", "b", "c")), True)
        self.assertIs(follows(book, ("a", "c", "c")), False)
        self.assertIs(follows(book, ("b", "a", "a")), False)

    def test_the_seen_member_may_change_and_change_back(self):
        book = Book(["a", "b", "c"], [("b", "a", "c"), ("a", "c", "b")])
        # a sees b: c is not it, but {a, b} becomes {a, c}, then {b, c}, which a sees b: c tells.
        self.assertIs(follows(book, ("a", "b", "c")), True)
        self.assertIs(follows(book, ("a", "b", "b")), False)

    def test_two_of_a_kind(self):
        book = Book(["a", "b", "c"], [("a", "a", "b"), ("b", "a", "c")])
        self.assertIs(follows(book, ("a", "a", "c")), True)
        self.assertIs(follows(Book(["a", "b", "c"], [("a", "b", "c")]), ("a", "a", "c")), False)
        # A third member would do it, but the two members alone do not come there.
        self.assertIs(follows(Book(["a", "b", "c"], [("a", "c", "b")]), ("a", "a", "b")), False)

    def test_rules_that_follow_from_no_rules(self):
        self.assertIs(follows(Book(["a", "b"], []), ("a", "b", "b")), False)
        self.assertIs(follows(Book(["a", "b"], []), ("a", "a", "b")), False)

    def test_follows_errors(self):
        book = Book(["a", "b"], [("a", "b", "b")])
        for rule in (("x", "a", "b"), ("a", "x", "b"), ("a", "b", "x"), ("a", "b", "a"), ("b", "b", "b"), ("", "", "")):
            self.check(InvalidRule, rule, follows, book, rule)

    def test_needless(self):
        book = Book(["a", "b", "c"], [("a", "b", "b"), ("a", "b", "c"), ("c", "b", "b")])
        self.assertEqual(needless(book), [("a", "b", "b")])
        self.assertEqual(needless(book.without(("a", "b", "b"))), [])
        self.assertEqual(needless(Book(["a"], [])), [])

    def test_each_is_needless_but_not_both(self):
        names = ["a", "b", "c"]
        rules = [("a", "b", "c"), ("a", "c", "b"), ("b", "a", "c"), ("b", "c", "a"), ("c", "a", "b"), ("c", "b", "a")]
        book = Book(names, rules)
        self.assertEqual(needless(book), rules)
        # A set of four is a least one, too, if none of those of three lies in it.
        self.assertEqual([[rules.index(rule) for rule in chosen] for chosen in least_rules(book)],
                         [[0, 3, 4], [1, 2, 5], [0, 1, 3, 5], [0, 2, 4, 5], [1, 2, 3, 4]])

    def test_least_rules(self):
        book = Book(["a", "b", "c"], [("a", "b", "c"), ("c", "b", "b"), ("a", "b", "b")])
        self.assertEqual(least_rules(book), [[("a", "b", "c"), ("c", "b", "b")]])
        self.assertEqual(least_rules(Book(["a", "b"], [])), [[]])
        self.assertEqual(least_rules(Book(["a", "b"], [("b", "a", "a")])), [[("b", "a", "a")]])

    def test_first_unlike(self):
        names = ["a", "b", "c"]
        rules = [("a", "b", "c"), ("c", "b", "b"), ("a", "b", "b"), ("a", "a", "b")]
        book = Book(names, rules)
        self.assertIsNone(first_unlike(book, book))
        self.assertIsNone(first_unlike(book, book.without(("a", "b", "b"))))
        self.assertEqual(first_unlike(book, book.without(("a", "a", "b"))), [2, 0, 0])
        self.assertEqual(first_unlike(book.without(("a", "a", "b")), book), [2, 0, 0])
        self.assertEqual(first_unlike(Book(names, []), book), [0, 1, 1])
        self.assertEqual(first_unlike(book, Book(names, [])), [0, 1, 1])
        self.assertIsNone(first_unlike(Book(names, []), Book(names, [])))
        self.assertIsNone(first_unlike(Book(["a"], []), Book(["a"], [])))

    def test_first_unlike_with_unlike_kinds(self):
        one, other = Book(["a", "b"], [("a", "b", "b")]), Book(["b", "a"], [("a", "b", "b")])
        self.check(UnlikeKinds, (["a", "b"], ["b", "a"]), first_unlike, one, other)
        self.check(UnlikeKinds, (["b", "a"], ["a", "b"]), first_unlike, other, one)
        self.check(UnlikeKinds, (["a"], ["a", "b"]), first_unlike, Book(["a"], []), Book(["a", "b"], []))


if __name__ == "__main__":
    unittest.main()
