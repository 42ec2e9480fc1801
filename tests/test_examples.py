"""The examples of the document, word for word."""

import doctest
import unittest

FAMILIES = """
>>> from lookcrowd.families import Family
>>> few, some = Family(2, [[(0, 1), (0, None)]]), Family(2, [[(1, None), (1, None)], [(0, 0), (2, 3)]])
>>> [few.boxes, some.has([0, 2]), some.has([1, 0]), (few & some).boxes, (~few).boxes, some.first(), some.bound(), len(few | some)]
[[[(0, 1), (0, None)]], True, False, [[(0, 1), (2, 3)], [(1, 1), (1, None)]], [[(2, None), (0, None)]], [0, 2], 4, 2]
>>> [Family(1, [[(0, 2)], [(3, 5)], [(4, None)]]).boxes, (few - some).first(), few == ~~few, few.within(some), Family(2, []).first(), (~Family(1, [])).boxes]
[[[(0, None)]], [0, 0], True, False, None, [[(0, None)]]]
"""

RULES = """
>>> from lookcrowd.rules import Book, can_do, done, first_unlike, follow, follows, least_rules, needless
>>> book = Book(["a", "b", "c"], [("a", "b", "c"), ("c", "b", "b"), ("a", "b", "b")])
>>> [book.rules, can_do(book, [1, 1, 0]), can_do(book, [2, 0, 0]), done(book, [2, 1, 0], ("a", "b", "c")), follow(book, [1, 1, 0], [("a", "b", "c"), ("c", "b", "b")])]
[[('a', 'b', 'b'), ('a', 'b', 'c'), ('c', 'b', 'b')], [('a', 'b', 'b'), ('a', 'b', 'c')], [], [1, 1, 1], [0, 2, 0]]
>>> [needless(book), follows(book, ("a", "c", "c")), least_rules(book) == [[("a", "b", "c"), ("c", "b", "b")]], first_unlike(book, book.without(("a", "b", "b"))), first_unlike(book, book.without(("c", "b", "b")))]
[[('a', 'b', 'b')], False, True, None, [0, 1, 1]]
"""

WAYS = """
>>> from lookcrowd.families import Family
>>> from lookcrowd.rules import Book
>>> from lookcrowd.ways import can_become, is_closed, judge, leads_into, led_to, one_look, run_to, stays, witness
>>> book = Book(["a", "b"], [("a", "b", "b"), ("a", "a", "b")])
>>> two, none = Family(2, [[(2, None), (0, 0)]]), Family(2, [[(0, 0), (0, None)]])
>>> [led_to(book, two).boxes, leads_into(book, none).boxes, one_look(book, two).boxes, is_closed(book, none), stays(book, Family(2, [[(0, None), (1, None)]])).boxes]
[[[(0, None), (2, None)], [(1, None), (1, None)], [(2, None), (0, None)]], [[(0, 0), (0, None)], [(0, None), (1, None)], [(2, None), (0, None)]], [[(1, None), (1, 1)]], True, [[(0, None), (1, None)]]]
>>> [can_become(book, two, none), len(run_to(book, [3, 0], none)), witness(book, Family(2, [[(0, 1), (0, 0)]]), Family(2, [[(0, None), (1, None)]])), judge(book, Family(2, [[(1, 1), (0, 0)]]), none, Family(2, [[(1, 1), (0, 0)]]))]
[True, 3, None, True]
"""

SETTLING = """
>>> from lookcrowd.families import Family
>>> from lookcrowd.rules import Book
>>> from lookcrowd.settling import judge_settled, may_rest, rests, settled, settles, surely_rests, unsettled
>>> book = Book(["a", "b"], [("a", "b", "b")])
>>> mixed, all_b = Family(2, [[(1, None), (1, None)]]), Family(2, [[(0, 0), (0, None)]])
>>> [settled(book, all_b).boxes, settles(book, mixed, all_b), rests(book).boxes, surely_rests(book).boxes, judge_settled(book, mixed, all_b, Family(2, [[(0, None), (1, None)]]), all_b)]
[[[(0, 0), (0, None)], [(0, None), (1, None)]], True, [[(0, 0), (0, None)], [(0, None), (0, 0)]], [[(0, None), (0, None)]], True]
>>> both = Book(["a", "b"], [("a", "b", "b"), ("b", "a", "a")])
>>> [settles(both, mixed, all_b), unsettled(both, mixed, all_b), settled(both, mixed).boxes, may_rest(both) == ~Family(2, [])]
[False, ([1, 1], [('b', 'a', 'a')]), [], True]
"""

CROWDS = """
>>> from lookcrowd.crowds import Crowd
>>> from lookcrowd.families import Family
>>> from lookcrowd.rules import Book
>>> crowd = Crowd(Book(["a", "b"], [("a", "b", "b")]), [2, 0])
>>> [crowd.able(), crowd.admit("b"), crowd("a", "b", "b"), crowd.counts, crowd.run, crowd["b"], len(crowd), crowd.undo(), crowd.undo(), crowd.counts, crowd.lies_in(Family(2, [[(0, None), (0, 0)]]))]
[[], None, None, [1, 2], [('a', 'b', 'b')], 2, 3, None, None, [2, 0], True]
"""

TEXTS = """
>>> from lookcrowd.families import Family
>>> from lookcrowd.readings import read_book, read_family
>>> from lookcrowd.rules import Book
>>> from lookcrowd.texts import show_book, show_family
>>> [show_family(Family(2, [[(0, 2), (1, None)]])), show_book(Book(["a", "b"], [("a", "b", "b")])), read_family("1; 0..") == ~Family(1, []), read_book("a b; a sees b: b") == Book(["a", "b"], [("a", "b", "b")]), show_family(Family(3, []))]
['2; 0..2 1..', 'a b; a sees b: b', True, True, '3']
"""


class Examples(unittest.TestCase):

    def check(self, name, text):
        example = doctest.DocTestParser().get_doctest(text, {}, name, name, 0)
        told = []
        results = doctest.DocTestRunner().run(example, out=told.append)
        self.assertGreater(results.attempted, 0)
        self.assertEqual(results.failed, 0, "".join(told))

    def test_families(self):
        self.check("families", FAMILIES)

    def test_rules(self):
        self.check("rules", RULES)

    def test_ways(self):
        self.check("ways", WAYS)

    def test_settling(self):
        self.check("settling", SETTLING)

    def test_crowds(self):
        self.check("crowds", CROWDS)

    def test_texts_and_readings(self):
        self.check("texts", TEXTS)


if __name__ == "__main__":
    unittest.main()
