"""The examples of the document, word for word."""

import doctest
import unittest

FAMILIES = """
>>> from lookcrowd.families import Family
>>> few, some = Family(2, [[(0, 1), (0, None)]]), Family(2, [[(1, None), (1, None)], [(0, 0), (2, 3)]])
>>> [few.boxes, some.has([0, 2]), some.has([1, 0]), (few & some).boxes, (~few).boxes, some.first(), some.bound(), len(few | some)]
[[[(0, 1), (0, None)]], True, False, [[(0, 1), (2, 3)], [(1, 1), (1, None)]], [[(2, None), (0, None)]], [0, 2], 4, 2]
>>> [Family(1, [[(0, 2)], [(3, 5)], [(4, None)]]).boxes, (few - some).first(), few == ~~few, few.within(some), Family(2, []).first(), (~Family(1, [])).boxes]
[[[(0, None)]], [0, 0], True, False, None, [[(0, None)]]]
"""

RULES = """
>>> from lookcrowd.rules import Book, can_do, done, first_unlike, follow, follows, least_rules, needless
>>> book = Book(["a", "b", "c"], [("a", "b", "c"), ("c", "b", "b"), ("a", "b", "b")])
>>> [book.rules, can_do(book, [1, 1, 0]), can_do(book, [2, 0, 0]), done(book, [2, 1, 0], ("a", "b", "c")), follow(book, [1, 1, 0], [("a", "b", "c"), ("c", "b", "b")])]
[[('a', 'b', 'b'), ('a', 'b', 'c'), ('c', 'b', 'b')], [('a', 'b', 'b'), ('a', 'b', 'c')], [], [1, 1, 1], [0, 2, 0]]
>>> [needless(book), follows(book, ("a", "c", "c")), least_rules(book) == [[("a", "b", "c"), ("c", "b", "b")]], first_unlike(book, book.without(("a", "b", "b"))), first_unlike(book, book.without(("c", "b", "b")))]
[[('a', 'b', 'b')], False, True, None, [0, 1, 1]]
"""

WAYS = """
>>> from lookcrowd.families import Family
>>> from lookcrowd.rules import Book
>>> from lookcrowd.ways import can_become, is_closed, judge, leads_into, led_to, one_look, run_to, stays, witness
>>> book = Book(["a", "b"], [("a", "b", "b"), ("a", "a", "b")])
>>> two, none = Family(2, [[(2, None), (0, 0)]]), Family(2, [[(0, 0), (0, None)]])
>>> [led_to(book, two).boxes, leads_into(book, none).boxes, one_look(book, two).boxes, is_closed(book, none), stays(book, Family(2, [[(0, None), (1, None)]])).boxes]
[[[(0, None), (2, None)], [(1, None), (1, None)], [(2, None), (0, None)]], [[(0, 0), (0, None)], [(0, None), (1, None)], [(2, None), (0, None)]], [[(1, None), (1, 1)]], True, [[(0, None), (1, None)]]]
>>> [can_become(book, two, none), len(run_to(book, [3, 0], none)), witness(book, Family(2, [[(0, 1), (0, 0)]]), Family(2, [[(0, None), (1, None)]])), judge(book, Family(2, [[(1, 1), (0, 0)]]), none, Family(2, [[(1, 1), (0, 0)]]))]
[True, 3, None, True]
"""


class Examples(unittest.TestCase):

    def check(self, name, text):
        example = doctest.DocTestParser().get_doctest(text, {}, name, name, 0)
        told = []
        results = doctest.DocTestRunner().run(example, out=told.append)
        self.assertGreater(results.attempted, 0)
        self.assertEqual(results.failed, 0, "".join(told))

    def test_families(self):
        self.check("families", FAMILIES)

    def test_rules(self):
        self.check("rules", RULES)

    def test_ways(self):
        self.check("ways", WAYS)


if __name__ == "__main__":
    unittest.main()
