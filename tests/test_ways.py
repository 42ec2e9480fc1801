"""Promises [5], [7], [9] and the interface of ways: ordinary inputs, edges and errors."""

import unittest

from lookcrowd.errors import InvalidCrowd, UnlikeKinds
from lookcrowd.families import Family
from lookcrowd.rules import Book, follow
from lookcrowd.ways import can_become, is_closed, judge, leads_into, led_to, one_look, run_to, stays, witness

NONE, EVERY = Family(2, []), Family(2, [[(0, None), (0, None)]])


class OneRule(unittest.TestCase):
    """A book in which a becomes b by seeing b."""

    def setUp(self):
        self.book = Book(["a", "b"], [("a", "b", "b")])

    def test_led_to(self):
        for boxes, told in (([[(2, None), (0, 0)]], [[(2, None), (0, 0)]]),
                            ([[(2, 2), (1, 1)]], [[(0, 0), (3, 3)], [(1, 1), (2, 2)], [(2, 2), (1, 1)]]),
                            ([[(2, None), (1, 1)]],
                             [[(0, None), (3, None)], [(1, None), (2, None)], [(2, None), (1, None)]]),
                            ([[(1, None), (0, None)]], [[(0, None), (2, None)], [(1, None), (0, None)]]),
                            ([], [])):
            self.assertEqual(led_to(self.book, Family(2, boxes)).boxes, told)

    def test_leads_into(self):
        self.assertEqual(leads_into(self.book, Family(2, [[(0, 0), (0, None)]])).boxes,
                         [[(0, 0), (0, None)], [(0, None), (1, None)]])
        # With one b behind the rule, the b that was seen is not there before it.
        self.assertEqual(leads_into(self.book, Family(2, [[(0, 0), (1, 1)]])).boxes, [[(0, 0), (1, 1)]])
        self.assertEqual(leads_into(self.book, Family(2, [[(0, 0), (3, 3)]])).boxes,
                         [[(0, 0), (3, 3)], [(1, 1), (2, 2)], [(2, 2), (1, 1)]])

    def test_one_look(self):
        self.assertEqual(one_look(self.book, EVERY).boxes, [[(0, None), (2, None)]])
        self.assertEqual(one_look(self.book, Family(2, [[(3, 5), (1, 1)]])).boxes, [[(2, 4), (2, 2)]])
        self.assertEqual(one_look(self.book, Family(2, [[(3, 5), (0, 0)], [(0, 0), (4, 4)]])).boxes, [])

    def test_stays(self):
        self.assertEqual(stays(self.book, Family(2, [[(1, None), (0, None)]])).boxes, [[(1, None), (0, 0)]])
        self.assertEqual(stays(self.book, Family(2, [[(0, None), (2, None)]])).boxes, [[(0, None), (2, None)]])
        self.assertEqual(stays(self.book, Family(2, [[(0, 4), (0, 3)]])).boxes,
                         [[(0, 0), (0, 3)], [(0, 1), (0, 2)], [(0, 2), (0, 1)], [(0, 4), (0, 0)]])


class NoneAndAll(unittest.TestCase):

    def test_no_rules(self):
        book, family = Book(["a", "b"], []), Family(2, [[(1, 2), (0, 0)], [(0, 0), (1, None)]])
        for ask in (led_to, leads_into, stays):
            self.assertTrue(ask(book, family) == family)
        self.assertTrue(one_look(book, family) == NONE)
        self.assertIs(is_closed(book, family), True)
        self.assertIs(can_become(book, family, ~family), False)
        self.assertIs(judge(book, family, ~family, family), True)
        self.assertEqual([run_to(book, [1, 0], family), run_to(book, [1, 1], family)], [[], None])

    def test_no_crowds_and_all_crowds(self):
        book = Book(["a", "b"], [("a", "b", "b"), ("b", "b", "a")])
        for ask in (led_to, leads_into, stays):
            self.assertTrue(ask(book, NONE) == NONE)
            self.assertTrue(ask(book, EVERY) == EVERY)
        self.assertTrue(one_look(book, NONE) == NONE)
        self.assertEqual([is_closed(book, NONE), is_closed(book, EVERY)], [True, True])
        self.assertEqual([can_become(book, NONE, EVERY), can_become(book, EVERY, NONE), can_become(book, EVERY, EVERY)],
                         [False, False, True])
        self.assertEqual([witness(book, NONE, EVERY), witness(book, EVERY, NONE), witness(book, EVERY, EVERY)],
                         [None, None, ([0, 0], [])])
        self.assertEqual([run_to(book, [4, 1], NONE), run_to(book, [4, 1], EVERY), run_to(book, [0, 0], EVERY)],
                         [None, [], []])
        for family, goal, paper in ((NONE, EVERY, NONE), (EVERY, NONE, EVERY), (NONE, NONE, EVERY)):
            self.assertIs(judge(book, family, goal, paper), True)

    def test_one_kind(self):
        book, family = Book(["a"], []), Family(1, [[(2, 3)]])
        self.assertEqual([led_to(book, family).boxes, leads_into(book, family).boxes, one_look(book, family).boxes],
                         [[[(2, 3)]], [[(2, 3)]], []])
        self.assertEqual([witness(book, family, Family(1, [[(3, None)]])), is_closed(book, family)], [([3], []), True])

    def test_a_member_alone_sees_nobody(self):
        book = Book(["a", "b"], [("a", "a", "b")])
        self.assertEqual(led_to(book, Family(2, [[(1, 1), (0, None)]])).boxes, [[(1, 1), (0, None)]])
        self.assertEqual(led_to(book, Family(2, [[(2, None), (0, 0)]])).boxes,
                         [[(1, None), (1, None)], [(2, None), (0, None)]])
        self.assertEqual(leads_into(book, Family(2, [[(0, 0), (0, None)]])).boxes, [[(0, 0), (0, None)]])
        self.assertEqual(one_look(book, Family(2, [[(0, 1), (0, None)]])).boxes, [])
        self.assertIs(is_closed(book, Family(2, [[(1, None), (0, None)]])), True)
        self.assertIs(is_closed(book, Family(2, [[(2, None), (0, None)]])), False)
        self.assertIsNone(run_to(book, [1, 5], Family(2, [[(0, 0), (0, None)]])))


class Closed(unittest.TestCase):

    def setUp(self):
        self.book = Book(["a", "b"], [("a", "b", "b")])

    def test_closed(self):
        self.assertIs(is_closed(self.book, Family(2, [[(0, 0), (0, None)]])), True)
        self.assertIs(is_closed(self.book, Family(2, [[(3, 3), (1, 1)]])), False)
        self.assertIs(is_closed(self.book, Family(2, [[(3, 3), (0, 0)]])), True)
        self.assertIs(is_closed(self.book, Family(2, [[(0, None), (1, 4)]])), False)

    def test_a_rule_leads_from_one_box_into_another_one(self):
        for boxes in ([[(2, 2), (1, 1)], [(1, 1), (2, 2)], [(0, 0), (3, 3)]],
                      [[(2, None), (0, 2)], [(0, 1), (0, None)], [(2, None), (3, None)]],
                      [[(0, 3), (1, 5)], [(0, 2), (2, 6)], [(0, 1), (5, 7)], [(0, 0), (3, 8)]]):
            family = Family(2, boxes)
            self.assertIs(is_closed(self.book, family), True)
            self.assertIs(judge(self.book, Family(2, boxes[:1]), Family(2, [[(9, 9), (0, 0)]]) - family, family), True)
        self.assertIs(is_closed(self.book, Family(2, [[(2, 2), (1, 1)], [(0, 0), (3, 3)]])), False)

    def test_judge(self):
        family, goal = Family(2, [[(1, 1), (1, 1)]]), Family(2, [[(0, None), (3, None)]])
        paper = Family(2, [[(1, 1), (1, 1)], [(0, 0), (2, 2)]])
        self.assertIs(judge(self.book, family, goal, paper), True)
        # It lacks a crowd of the family; it has one of the goal; it is not closed.
        self.assertIs(judge(self.book, family | Family(2, [[(0, 0), (0, 0)]]), goal, paper), False)
        self.assertIs(judge(self.book, family, goal | Family(2, [[(0, 0), (2, 2)]]), paper), False)
        self.assertIs(judge(self.book, family, goal, family), False)
        # A paper may be wider than what the family leads to, and the goal may be beyond reach without a paper for it.
        self.assertIs(judge(self.book, family, goal, Family(2, [[(0, 2), (0, 2)]])), False)
        self.assertIs(judge(self.book, family, goal, ~goal), False)
        wide = Family(2, [[(0, None), (1, None)]])
        self.assertIs(judge(self.book, family, Family(2, [[(0, 0), (0, 1)]]), wide), False)
        self.assertIs(judge(self.book, family, Family(2, [[(0, None), (0, 0)]]), wide), True)


class Runs(unittest.TestCase):

    def setUp(self):
        self.book = Book(["a", "b", "c"], [("a", "b", "c"), ("b", "c", "a"), ("c", "a", "b"), ("a", "a", "b")])

    def test_run_to(self):
        goal = Family(3, [[(0, None), (0, None), (1, None)]])
        self.assertEqual(run_to(self.book, [1, 1, 0], goal), [("a", "b", "c")])
        self.assertEqual(run_to(self.book, [2, 0, 0], goal), [("a", "a", "b"), ("a", "b", "c")])
        self.assertEqual(run_to(self.book, [0, 0, 1], goal), [])
        self.assertIsNone(run_to(self.book, [0, 5, 0], goal))
        self.assertIsNone(run_to(self.book, [0, 0, 0], goal))

    def test_run_to_eight_members(self):
        goal = Family(3, [[(0, 1), (0, 1), (6, None)]])
        run = run_to(self.book, [8, 0, 0], goal)
        end = follow(self.book, [8, 0, 0], run)
        self.assertTrue(goal.has(end))
        self.assertEqual(sum(end), 8)

    def test_witness(self):
        goal = Family(3, [[(0, None), (0, None), (1, None)]])
        self.assertEqual(witness(self.book, Family(3, [[(0, None), (0, None), (0, 0)]]), goal),
                         ([1, 1, 0], [("a", "b", "c")]))
        self.assertEqual(witness(self.book, Family(3, [[(0, None), (0, 0), (0, 0)]]), goal),
                         ([2, 0, 0], [("a", "a", "b"), ("a", "b", "c")]))
        self.assertEqual(witness(self.book, Family(3, [[(0, None), (0, 0), (0, None)]]), goal), ([0, 0, 1], []))
        self.assertIsNone(witness(self.book, Family(3, [[(0, 0), (0, None), (0, 0)]]), goal))

    def test_can_become(self):
        goal = Family(3, [[(0, None), (0, None), (1, None)]])
        self.assertIs(can_become(self.book, Family(3, [[(0, 2), (0, 0), (0, 0)]]), goal), True)
        self.assertIs(can_become(self.book, Family(3, [[(0, 1), (0, 0), (0, 0)]]), goal), False)


class Errors(unittest.TestCase):

    def check(self, error, value, ask, *given):
        with self.assertRaises(error) as caught:
            ask(*given)
        self.assertIs(type(caught.exception), error)
        self.assertEqual(caught.exception.value, value)
        return caught.exception.value

    def setUp(self):
        self.book = Book(["a", "b"], [("a", "b", "b")])
        self.one, self.three = Family(1, []), Family(3, [[(0, None), (0, None), (0, None)]])

    def test_one_family(self):
        for ask in (led_to, leads_into, one_look, is_closed, stays):
            for family in (self.one, self.three):
                self.check(UnlikeKinds, (2, family.kinds), ask, self.book, family)
                self.check(UnlikeKinds, (1, 3), ask, Book(["a"], []), self.three)

    def test_the_first_family_with_another_number(self):
        one, three = self.one, self.three
        for ask in (can_become, witness):
            for given, number in (([one, EVERY], 1), ([EVERY, one], 1), ([one, three], 1), ([three, one], 3),
                                  ([NONE, three], 3), ([three, NONE], 3), ([three, three], 3)):
                self.check(UnlikeKinds, (2, number), ask, self.book, *given)
        for given, number in (([one, EVERY, EVERY], 1), ([NONE, three, NONE], 3), ([NONE, NONE, one], 1),
                              ([EVERY, NONE, three], 3), ([one, three, EVERY], 1), ([three, EVERY, one], 3),
                              ([EVERY, one, three], 1), ([EVERY, three, one], 3), ([three, one, one], 3),
                              # These are also no proof, which is not looked at.
                              ([EVERY, EVERY, one], 1), ([EVERY, one, NONE], 1)):
            self.check(UnlikeKinds, (2, number), judge, self.book, *given)

    def test_run_to(self):
        for crowd in ([], [1], [1, 1, 1], [-1, 1], [1, -1], [-1]):
            for goal in (EVERY, NONE, self.one, self.three):
                self.assertIsNot(self.check(InvalidCrowd, crowd, run_to, self.book, crowd, goal), crowd)
        for crowd in ([0, 0], [2, 1]):
            self.check(UnlikeKinds, (2, 1), run_to, self.book, crowd, self.one)
            self.check(UnlikeKinds, (2, 3), run_to, self.book, crowd, self.three)


if __name__ == "__main__":
    unittest.main()
