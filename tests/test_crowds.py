"""Promises [4], [5], [8] and the interface of crowds: ordinary inputs, edges and errors."""

import unittest

from lookcrowd.crowds import Crowd
from lookcrowd.errors import InvalidCrowd, InvalidName, InvalidRule, NotAble, NothingToUndo, UnlikeKinds
from lookcrowd.families import Family
from lookcrowd.rules import Book

KINDS = ["a", "b", "c"]
RULES = [("a", "b", "c"), ("a", "a", "b"), ("c", "b", "b")]


def state(crowd):
    return [crowd.counts, crowd.run, crowd.able(), len(crowd), [crowd[kind] for kind in KINDS]]


class Case(unittest.TestCase):

    def setUp(self):
        self.book = Book(KINDS, RULES)
        self.crowd = Crowd(self.book, [2, 1, 0])

    def refuse(self, error, value, ask, *given, **named):
        with self.assertRaises(error) as caught:
            ask(*given, **named)
        self.assertIs(type(caught.exception), error)
        self.assertEqual(caught.exception.value, value)
        self.assertIs(type(caught.exception.value), type(value))
        return caught.exception.value


class Steps(Case):

    def test_the_beginning(self):
        self.assertEqual(state(self.crowd), [[2, 1, 0], [], [("a", "a", "b"), ("a", "b", "c")], 3, [2, 1, 0]])

    def test_rules(self):
        self.assertIsNone(self.crowd("a", "b", "c"))
        self.assertEqual(state(self.crowd), [[1, 1, 1], [("a", "b", "c")], [("a", "b", "c"), ("c", "b", "b")], 3,
                                             [1, 1, 1]])
        self.assertIsNone(self.crowd(kind="c", seen="b", new="b"))
        self.assertIsNone(self.crowd(new="c", kind="a", seen="b"))
        self.assertEqual(state(self.crowd), [[0, 2, 1], [("a", "b", "c"), ("c", "b", "b"), ("a", "b", "c")],
                                             [("c", "b", "b")], 3, [0, 2, 1]])

    def test_the_run_is_made_of_tuples_that_are_rules_of_the_book(self):
        self.crowd("a", "a", "b")
        self.crowd("a", "b", "c")
        for rule in self.crowd.run:
            self.assertIs(type(rule), tuple)
            self.assertIn(rule, self.book.rules)

    def test_admit(self):
        self.assertIsNone(self.crowd.admit("c"))
        self.assertIsNone(self.crowd.admit("a", 4))
        self.assertIsNone(self.crowd.admit(many=2, kind="b"))
        self.assertIsNone(self.crowd.admit(kind="b"))
        self.assertEqual(state(self.crowd), [[6, 4, 1], [], self.book.rules, 11, [6, 4, 1]])

    def test_undo_takes_back_rules_and_members(self):
        told = [state(self.crowd)]
        for step in (lambda: self.crowd("a", "b", "c"), lambda: self.crowd.admit("b", 3),
                     lambda: self.crowd("c", "b", "b"), lambda: self.crowd.admit("a"), lambda: self.crowd.admit("a"),
                     lambda: self.crowd("a", "a", "b")):
            step()
            told.append(state(self.crowd))
        for before in told[-2::-1]:
            self.assertIsNone(self.crowd.undo())
            self.assertEqual(state(self.crowd), before)
        self.refuse(NothingToUndo, 0, self.crowd.undo)
        self.assertEqual(state(self.crowd), told[0])

    def test_on_behind_the_beginning(self):
        for _ in range(3):
            self.refuse(NothingToUndo, 0, self.crowd.undo)
        self.crowd("a", "a", "b")
        self.crowd.undo()
        self.refuse(NothingToUndo, 0, self.crowd.undo)
        self.crowd.admit("a")
        self.crowd("a", "b", "c")
        self.assertEqual([self.crowd.counts, self.crowd.run], [[2, 1, 1], [("a", "b", "c")]])
        self.crowd.undo()
        self.crowd("a", "a", "b")
        self.assertEqual([self.crowd.counts, self.crowd.run], [[2, 2, 0], [("a", "a", "b")]])
        self.crowd.undo()
        self.crowd.undo()
        self.refuse(NothingToUndo, 0, self.crowd.undo)
        self.assertEqual([self.crowd.counts, self.crowd.run], [[2, 1, 0], []])

    def test_empty_crowd(self):
        crowd = Crowd(self.book, [0, 0, 0])
        self.assertEqual(state(crowd), [[0, 0, 0], [], [], 0, [0, 0, 0]])
        self.refuse(NotAble, ("a", "b", "c"), crowd, "a", "b", "c")
        crowd.admit("b")
        crowd.admit("c")
        crowd("c", "b", "b")
        self.assertEqual(crowd.counts, [0, 2, 0])

    def test_a_member_does_not_see_itself(self):
        crowd = Crowd(self.book, [1, 0, 0])
        self.assertEqual(crowd.able(), [])
        self.refuse(NotAble, ("a", "a", "b"), crowd, "a", "a", "b")
        crowd.admit("a")
        self.assertEqual(crowd.able(), [("a", "a", "b")])
        crowd("a", "a", "b")
        self.assertEqual(crowd.counts, [1, 1, 0])

    def test_thirty_members_ninety_rules_and_as_many_undos(self):
        ring = [("a", "b", "b"), ("a", "a", "b"), ("b", "b", "c"), ("b", "c", "c"), ("c", "c", "a"), ("c", "a", "a")]
        crowd, told = Crowd(Book(KINDS, ring), [30, 0, 0]), []
        for at in range(90):
            told.append([crowd.counts, crowd.run])
            crowd(*crowd.able()[at % len(crowd.able())])
            self.assertEqual([len(crowd.run), len(crowd)], [at + 1, 30])
        for before in told[::-1]:
            crowd.undo()
            self.assertEqual([crowd.counts, crowd.run], before)
        self.refuse(NothingToUndo, 0, crowd.undo)
        self.assertEqual(crowd.counts, [30, 0, 0])

    def test_eight_kinds(self):
        kinds = ["q", "b", "sees", "abcdefgh", "z", "y", "x", "w"]
        rules = [("q", "sees", "w"), ("w", "w", "b"), ("sees", "q", "abcdefgh")]
        crowd = Crowd(Book(kinds, rules), [3, 0, 2, 0, 0, 0, 0, 1])
        crowd("q", "sees", "w")
        crowd("w", "w", "b")
        self.assertEqual(crowd.counts, [2, 1, 2, 0, 0, 0, 0, 1])
        self.assertEqual([crowd[kind] for kind in kinds], crowd.counts)
        self.assertEqual(crowd.able(), [("q", "sees", "w"), ("sees", "q", "abcdefgh")])


class Families(Case):

    def test_lies_in(self):
        family = Family(3, [[(1, 1), (1, None), (0, 1)], [(0, 0), (0, None), (0, 0)]])
        self.assertIs(self.crowd.lies_in(family), False)
        self.crowd("a", "b", "c")
        self.assertIs(self.crowd.lies_in(family), True)
        self.assertIs(self.crowd.lies_in(family=family), True)
        self.crowd.undo()
        self.assertIs(self.crowd.lies_in(~family), True)
        self.assertIs(self.crowd.lies_in(Family(3, [])), False)
        self.assertIs(self.crowd.lies_in(~Family(3, [])), True)

    def test_unlike_kinds(self):
        for kinds in (1, 2, 4):
            for boxes in ([], [[(0, None)] * kinds]):
                self.refuse(UnlikeKinds, (3, kinds), self.crowd.lies_in, Family(kinds, boxes))
                self.refuse(UnlikeKinds, (1, 3), Crowd(Book(["a"], []), [3]).lies_in, Family(3, []))


class Errors(Case):

    def test_no_crowd(self):
        for counts in ([], [1], [1, 2], [1, 2, 3, 4], [-1, 0, 0], [0, 0, -5], [-1], [1, -1, 2, 2]):
            told = self.refuse(InvalidCrowd, counts, Crowd, self.book, counts)
            self.assertIsNot(told, counts)
            self.refuse(InvalidCrowd, counts, Crowd, counts=counts, book=self.book)

    def test_no_rule_of_the_book(self):
        before = state(self.crowd)
        for rule in (("a", "b", "b"), ("a", "b", "a"), ("b", "b", "b"), ("x", "b", "c"), ("a", "x", "c"),
                     ("a", "b", "x"), ("", "", ""), ("A", "b", "c"), ("a ", "b", "c"), ("c", "b", "a"),
                     # These could not be done either.
                     ("c", "a", "b"), ("c", "c", "a")):
            self.refuse(InvalidRule, rule, self.crowd, *rule)
            self.assertEqual(state(self.crowd), before)

    def test_not_able(self):
        before = state(self.crowd)
        self.refuse(NotAble, ("c", "b", "b"), self.crowd, "c", "b", "b")
        self.refuse(NotAble, ("c", "b", "b"), self.crowd, new="b", seen="b", kind="c")
        self.assertEqual(state(self.crowd), before)

    def test_no_kind(self):
        before = state(self.crowd)
        for kind in ("x", "", "A", "aa", "a ", "abcdefghi", "a b", "~"):
            self.refuse(InvalidName, kind, lambda: self.crowd[kind])
            self.refuse(InvalidName, kind, self.crowd.admit, kind)
            for many in (1, 0, -3):
                self.refuse(InvalidName, kind, self.crowd.admit, kind, many)
            self.assertEqual(state(self.crowd), before)

    def test_too_few_members_to_join(self):
        before = state(self.crowd)
        for many in (0, -1, -30):
            self.refuse(InvalidCrowd, many, self.crowd.admit, "a", many)
            self.refuse(InvalidCrowd, many, self.crowd.admit, many=many, kind="c")
            self.assertEqual(state(self.crowd), before)

    def test_undo_behind_errors(self):
        self.crowd("a", "b", "c")
        before = state(self.crowd)
        for error, ask in ((InvalidRule, lambda: self.crowd("a", "b", "b")),
                           (NotAble, lambda: self.crowd("a", "a", "b")), (InvalidName, lambda: self.crowd.admit("d")),
                           (InvalidName, lambda: self.crowd["d"]), (InvalidCrowd, lambda: self.crowd.admit("a", 0)),
                           (UnlikeKinds, lambda: self.crowd.lies_in(Family(2, [])))):
            with self.assertRaises(error):
                ask()
            self.assertEqual(state(self.crowd), before)
        self.crowd.undo()
        self.assertEqual([self.crowd.counts, self.crowd.run], [[2, 1, 0], []])
        self.refuse(NothingToUndo, 0, self.crowd.undo)


class Equality(Case):

    def test_equal_books_and_counts(self):
        more = Book(KINDS, RULES + [("b", "a", "a")])
        for book in (self.book, Book(KINDS, RULES[::-1]), more.without(("b", "a", "a"))):
            other = Crowd(book, [2, 1, 0])
            self.assertIs(self.crowd == other, True)
            self.assertIs(other == self.crowd, True)
            self.assertIs(self.crowd != other, False)

    def test_other_steps_to_the_same_numbers(self):
        other = Crowd(self.book, [1, 1, 0])
        self.assertIs(self.crowd == other, False)
        other.admit("a")
        self.assertIs(self.crowd == other, True)
        self.crowd("a", "b", "c")
        self.assertIs(self.crowd == other, False)
        self.assertIs(self.crowd != other, True)
        self.crowd("c", "b", "b")
        other("a", "a", "b")
        self.assertIs(self.crowd == other, True)
        self.crowd.undo()
        self.assertIs(self.crowd == other, False)
        self.crowd.undo()
        other.undo()
        self.assertIs(self.crowd == other, True)

    def test_other_books(self):
        for book in (Book(KINDS, RULES[1:]), Book(KINDS, RULES + [("b", "a", "a")]), Book(["a", "b", "d"], []),
                     Book(["b", "a", "c"], RULES), Book(KINDS, [])):
            self.assertIs(self.crowd == Crowd(book, [2, 1, 0]), False)
            self.assertIs(self.crowd != Crowd(book, [2, 1, 0]), True)
        self.assertIs(Crowd(Book(["a"], []), [1]) == Crowd(Book(["a", "b"], []), [1, 0]), False)

    def test_other_numbers(self):
        for counts in ([1, 2, 0], [2, 1, 1], [0, 1, 2], [0, 0, 0]):
            self.assertIs(self.crowd == Crowd(self.book, counts), False)

    def test_anything_else(self):
        for other in (None, 3, "a", [2, 1, 0], (2, 1, 0), {}, self.book, Family(3, [[(2, 2), (1, 1), (0, 0)]]), Crowd,
                      object(), True):
            self.assertIs(self.crowd == other, False)
            self.assertIs(other == self.crowd, False)
            self.assertIs(self.crowd != other, True)


class Lists(Case):

    def test_lists_that_were_handed_in(self):
        counts = [2, 1, 0]
        crowd = Crowd(self.book, counts)
        counts[0] = 7
        counts.append(4)
        self.assertEqual(crowd.counts, [2, 1, 0])
        crowd("a", "b", "c")
        self.assertEqual(counts, [7, 1, 0, 4])
        counts.clear()
        crowd.undo()
        self.assertEqual(state(crowd), state(self.crowd))

    def test_told_lists(self):
        for step in (lambda: None, lambda: self.crowd("a", "b", "c"), lambda: self.crowd.admit("b"), self.crowd.undo,
                     self.crowd.undo):
            step()
            before = state(self.crowd)
            for told in (self.crowd.counts, self.crowd.run, self.crowd.able()):
                told.append("spoiled")
                del told[0]
            self.assertEqual(state(self.crowd), before)
            self.assertIsNot(self.crowd.counts, self.crowd.counts)
            self.assertIsNot(self.crowd.run, self.crowd.run)

    def test_two_crowds_share_a_book(self):
        other = Crowd(self.book, [2, 1, 0])
        self.crowd("a", "b", "c")
        self.crowd.admit("a", 5)
        self.assertEqual(state(other), [[2, 1, 0], [], [("a", "a", "b"), ("a", "b", "c")], 3, [2, 1, 0]])
        self.refuse(NothingToUndo, 0, other.undo)
        other("a", "a", "b")
        self.crowd.undo()
        self.assertEqual([self.crowd.counts, self.crowd.run], [[1, 1, 1], [("a", "b", "c")]])
        self.assertEqual([other.counts, other.run], [[1, 2, 0], [("a", "a", "b")]])
        self.assertTrue(self.book == Book(KINDS, RULES))

    def test_lists_of_the_book_changed_afterwards(self):
        kinds, rules = list(KINDS), list(RULES)
        crowd = Crowd(Book(kinds, rules), [2, 1, 0])
        kinds.reverse()
        rules.clear()
        self.assertEqual(state(crowd), state(self.crowd))
        self.assertIs(crowd == self.crowd, True)


if __name__ == "__main__":
    unittest.main()
