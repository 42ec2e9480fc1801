"""Promises [7], [8], [9] and the interface of settling: ordinary inputs, edges and errors."""

import unittest

from lookcrowd.errors import UnlikeKinds
from lookcrowd.families import Family
from lookcrowd.rules import Book
from lookcrowd.settling import judge_settled, may_rest, rests, settled, settles, surely_rests, unsettled

NONE, EVERY = Family(2, []), Family(2, [[(0, None), (0, None)]])
MIXED, ALL_B = Family(2, [[(1, None), (1, None)]]), Family(2, [[(0, 0), (0, None)]])


class OneRule(unittest.TestCase):
    """A book in which a becomes b by seeing b."""

    def setUp(self):
        self.book = Book(["a", "b"], [("a", "b", "b")])

    def test_settled(self):
        for goal, told in ((ALL_B.boxes, [[(0, 0), (0, None)], [(0, None), (1, None)]]),
                           ([[(0, None), (0, 0)]], [[(0, None), (0, 0)]]),
                           ([[(0, 0), (2, None)]], [[(0, None), (2, None)], [(1, None), (1, None)]]),
                           ([[(0, 1), (1, 2)]], [[(0, 0), (1, 2)], [(0, 1), (1, 1)]]),
                           (MIXED.boxes, []), ([], []), (EVERY.boxes, EVERY.boxes)):
            self.assertEqual(settled(self.book, Family(2, goal)).boxes, told)

    def test_settles(self):
        self.assertIs(settles(self.book, MIXED, ALL_B), True)
        self.assertIs(settles(self.book, EVERY, ALL_B), False)
        self.assertIs(settles(self.book, Family(2, [[(0, None), (1, None)], [(0, 0), (0, 0)]]), ALL_B), True)
        self.assertIs(settles(self.book, Family(2, [[(0, 1), (0, None)]]), ALL_B), False)
        # Crowds of a goal need not settle in it.
        self.assertIs(settles(self.book, MIXED, MIXED), False)

    def test_unsettled(self):
        self.assertIsNone(unsettled(self.book, MIXED, ALL_B))
        self.assertEqual(unsettled(self.book, EVERY, ALL_B), ([1, 0], []))
        self.assertEqual(unsettled(self.book, MIXED, MIXED), ([1, 1], []))

    def test_rests(self):
        self.assertEqual(rests(self.book).boxes, [[(0, 0), (0, None)], [(0, None), (0, 0)]])
        self.assertTrue(may_rest(self.book) == EVERY)
        self.assertTrue(surely_rests(self.book) == EVERY)


class TwoEnds(unittest.TestCase):
    """A book in which either kind may win."""

    def setUp(self):
        self.book = Book(["a", "b"], [("a", "b", "b"), ("b", "a", "a")])

    def test_mixed_crowds_settle_in_either_end_alone(self):
        all_a = Family(2, [[(0, None), (0, 0)]])
        self.assertTrue(settled(self.book, ALL_B) == ALL_B)
        self.assertTrue(settled(self.book, all_a) == all_a)
        self.assertTrue(settled(self.book, all_a | ALL_B) == EVERY)
        self.assertTrue(settled(self.book, MIXED) == NONE)
        self.assertTrue(rests(self.book) == all_a | ALL_B)
        self.assertTrue(may_rest(self.book) == EVERY)
        self.assertTrue(surely_rests(self.book) == EVERY)

    def test_unsettled_tells_a_run_of_least_length(self):
        for crowd, length in (([1, 1], 1), ([2, 1], 1), ([1, 2], 2), ([2, 2], 2)):
            family = Family(2, [[(many, many) for many in crowd]])
            self.assertEqual(unsettled(self.book, family, ALL_B), (crowd, [("b", "a", "a")] * length))
        self.assertEqual(unsettled(self.book, EVERY, ALL_B), ([1, 0], []))

    def test_unsettled_tells_the_first_crowd(self):
        family = Family(2, [[(2, None), (0, 0)], [(1, 1), (2, None)]])
        self.assertEqual(unsettled(self.book, family, ALL_B), ([2, 0], []))
        self.assertEqual(unsettled(self.book, family, ~ALL_B), ([1, 2], [("a", "b", "b")]))
        family = Family(2, [[(2, 2), (0, None)], [(1, 1), (1, None)]])
        self.assertEqual(unsettled(self.book, family, ALL_B), ([1, 1], [("b", "a", "a")]))

    def test_none_and_all(self):
        for book in (self.book, Book(["a", "b"], [])):
            self.assertTrue(settled(book, NONE) == NONE)
            self.assertTrue(settled(book, EVERY) == EVERY)
            for family, goal, told in ((NONE, NONE, True), (NONE, EVERY, True), (EVERY, EVERY, True),
                                       (EVERY, NONE, False)):
                self.assertIs(settles(book, family, goal), told)
                self.assertEqual(unsettled(book, family, goal), None if told else ([0, 0], []))


class Kinds(unittest.TestCase):

    def test_a_kind_that_sees_its_own(self):
        book = Book(["a", "b"], [("a", "a", "b")])
        self.assertEqual(rests(book).boxes, [[(0, 1), (0, None)]])
        self.assertTrue(may_rest(book) == surely_rests(book) == EVERY)
        self.assertEqual(settled(book, Family(2, [[(1, 1), (0, None)]])).boxes, [[(1, None), (0, None)]])
        self.assertEqual(settled(book, ALL_B).boxes, ALL_B.boxes)
        self.assertEqual(unsettled(book, Family(2, [[(0, None), (1, None)]]), ALL_B), ([1, 1], []))

    def test_one_kind(self):
        book, goal = Book(["a"], []), Family(1, [[(1, 2)]])
        self.assertEqual(settled(book, goal).boxes, [[(1, 2)]])
        for told in (rests(book), may_rest(book), surely_rests(book)):
            self.assertEqual(told.boxes, [[(0, None)]])
        self.assertEqual(unsettled(book, Family(1, [[(1, None)]]), goal), ([3], []))
        self.assertIs(settles(book, Family(1, [[(2, 2)]]), goal), True)

    def test_crowds_that_never_rest(self):
        book = Book(["a", "b", "c"], [("a", "c", "b"), ("b", "c", "a")])
        still = [[(0, 0), (0, 0), (0, None)], [(0, None), (0, None), (0, 0)]]
        for told in (rests(book), may_rest(book), surely_rests(book)):
            self.assertEqual(told.boxes, still)
        some_a = Family(3, [[(1, None), (0, None), (0, None)]])
        self.assertEqual(settled(book, some_a).boxes, [[(1, None), (0, None), (0, 0)]])
        self.assertEqual(unsettled(book, some_a, some_a), ([1, 0, 1], []))
        # A run may go round for ever, if all of its crowds lie in the goal.
        self.assertEqual(settled(book, Family(3, [[(0, None), (0, None), (1, 1)]])).boxes,
                         [[(0, None), (0, None), (1, 1)]])

    def test_crowds_that_rest_by_some_fair_runs_only(self):
        book = Book(["a", "b", "c"], [("a", "b", "b"), ("a", "a", "c"), ("a", "c", "b"), ("b", "c", "a")])
        self.assertEqual(rests(book).boxes,
                         [[(0, 0), (0, 0), (0, None)], [(0, 0), (0, None), (0, 0)], [(0, 1), (0, 0), (0, 0)]])
        self.assertEqual(may_rest(book).boxes,
                         [[(0, 0), (0, 0), (0, None)], [(0, 1), (0, None), (0, 0)], [(0, None), (1, None), (0, 0)]])
        self.assertEqual(surely_rests(book).boxes, [[(0, 0), (0, 0), (0, None)], [(0, 1), (0, None), (0, 0)]])

    def test_a_race(self):
        book = Book(["a", "b", "c"], [("a", "b", "b"), ("a", "c", "c")])
        goal = Family(3, [[(0, None), (0, None), (0, 1)]])
        one = Family(3, [[(1, 1), (1, 1), (1, 1)]])
        self.assertEqual(unsettled(book, one, goal), ([1, 1, 1], [("a", "c", "c")]))
        self.assertEqual(settled(book, goal).boxes,
                         [[(0, 0), (0, None), (0, 1)], [(0, None), (0, None), (0, 0)]])

    def test_lists_of_a_told_family_are_apart(self):
        told = settled(Book(["a", "b"], [("a", "b", "b")]), ALL_B)
        told.boxes[0].clear()
        self.assertEqual(told.boxes, [[(0, 0), (0, None)], [(0, None), (1, None)]])


class Papers(unittest.TestCase):

    def setUp(self):
        self.book = Book(["a", "b", "c"], [("a", "b", "b"), ("b", "a", "a"), ("a", "a", "c")])
        self.family = Family(3, [[(1, 1), (1, 1), (0, 0)]])
        self.goal = Family(3, [[(0, None), (0, 0), (0, None)], [(0, 0), (0, None), (0, None)]])
        self.led = Family(3, [[(1, 1), (1, 1), (0, 0)], [(0, 0), (2, 2), (0, 0)], [(2, 2), (0, 0), (0, 0)],
                              [(1, 1), (0, 0), (1, 1)]])
        self.safe = Family(3, [[(0, 0), (2, 2), (0, 0)], [(1, 1), (0, 0), (1, 1)]])

    def judged(self, **changed):
        given = {"book": self.book, "family": self.family, "goal": self.goal, "led": self.led, "safe": self.safe}
        return judge_settled(**{**given, **changed})

    def one(self, *crowd):
        return Family(3, [[(many, many) for many in crowd]])

    def test_right(self):
        self.assertIs(self.judged(), True)
        self.assertIs(self.judged(safe=self.safe | self.one(2, 0, 0)), True)
        self.assertIs(self.judged(safe=self.goal), True)
        self.assertIs(self.judged(led=self.led | self.one(0, 1, 0)), False)
        self.assertIs(self.judged(led=self.led | self.one(0, 1, 0), safe=self.safe | self.one(0, 1, 0)), True)
        every = Family(3, [[(0, None), (0, None), (0, None)]])
        self.assertIs(self.judged(led=every, safe=self.goal), True)
        self.assertIs(self.judged(family=every, led=every, safe=self.goal), True)

    def test_led_lacks_a_crowd_of_the_family(self):
        self.assertIs(self.judged(family=self.family | self.one(0, 0, 1)), False)
        self.assertIs(self.judged(family=self.one(2, 0, 0)), True)
        self.assertIs(self.judged(led=Family(3, [])), False)

    def test_led_is_not_closed(self):
        self.assertIs(self.judged(led=self.led - self.one(1, 0, 1)), False)
        self.assertIs(self.judged(led=self.family), False)

    def test_safe_is_not_closed(self):
        self.assertIs(self.judged(safe=self.safe | self.one(0, 1, 1) | self.one(3, 0, 0)), False)
        self.assertIs(self.judged(safe=self.safe | self.one(2, 0, 0) - self.one(1, 0, 1)), True)
        self.assertIs(self.judged(safe=self.one(2, 0, 0) | self.one(0, 2, 0)), False)

    def test_safe_does_not_lie_in_the_goal(self):
        self.assertIs(self.judged(goal=self.goal - self.one(0, 2, 0)), False)
        self.assertIs(self.judged(goal=self.safe), True)
        self.assertIs(self.judged(safe=self.led), False)

    def test_a_crowd_leads_to_none_of_the_safe_ones(self):
        self.assertIs(self.judged(safe=self.one(0, 2, 0)), False)
        self.assertIs(self.judged(safe=self.one(1, 0, 1)), False)
        self.assertIs(self.judged(safe=Family(3, [])), False)

    def test_boxes_that_touch_and_overlap(self):
        book = Book(["a", "b"], [("a", "b", "b")])
        led = Family(2, [[(0, 1), (1, None)], [(2, 3), (1, None)], [(3, None), (1, 4)], [(1, None), (3, None)]])
        safe = Family(2, [[(0, 0), (1, 2)], [(0, 0), (2, 5)], [(0, 0), (6, None)]])
        self.assertIs(judge_settled(book, MIXED, ALL_B, led, safe), True)
        self.assertIs(judge_settled(book, MIXED, ALL_B, led, safe - Family(2, [[(0, 0), (4, 4)]])), False)
        self.assertIs(judge_settled(book, MIXED, ALL_B, led - Family(2, [[(0, 0), (4, 4)]]), safe), False)
        self.assertIs(judge_settled(book, MIXED, ALL_B, led, safe - Family(2, [[(0, 0), (1, 1)]])), False)
        self.assertIs(judge_settled(book, MIXED, ALL_B, led - Family(2, [[(0, 0), (1, 1)]]),
                                    safe - Family(2, [[(0, 0), (1, 1)]])), True)

    def test_no_family_needs_no_papers(self):
        book = Book(["a", "b"], [("a", "b", "b")])
        self.assertIs(judge_settled(book, NONE, NONE, NONE, NONE), True)
        self.assertIs(judge_settled(book, NONE, ALL_B, NONE, ALL_B), True)
        # Papers that show something else show nothing, even if nothing is to be shown.
        self.assertIs(judge_settled(book, NONE, NONE, NONE, ALL_B), False)
        self.assertIs(judge_settled(book, NONE, ALL_B, MIXED, ALL_B), False)
        self.assertIs(judge_settled(book, NONE, EVERY, NONE, MIXED), False)
        self.assertIs(judge_settled(book, NONE, ALL_B, EVERY, ALL_B), False)

    def test_great_papers(self):
        """Papers may be families that signs made, with great numbers and many boxes."""
        book = Book(["a", "b", "c"], [("a", "b", "b"), ("c", "b", "b"), ("a", "c", "c"), ("c", "a", "a")])
        family = Family(3, [[(1, 1), (1, None), (1, 1)]]) - Family(3, [[(0, None), (0, 17), (0, None)]])
        safe = ~Family(3, [[(0, None), (0, 19), (0, None)]])
        led = Family(3, [])
        for low in range(20):
            for other in range(20 - low):
                led = led | Family(3, [[(low, None), (max(1, 20 - low - other), None), (other, None)]])
        self.assertGreater(len(led), 200)
        self.assertIs(judge_settled(book, family, safe, led, safe), True)
        # A crowd with a b leads to twenty of them only if it has twenty members.
        self.assertIs(judge_settled(book, family, safe, ~Family(3, [[(0, None), (0, 0), (0, None)]]), safe), False)
        self.assertIs(judge_settled(book, family, safe, led - Family(3, [[(0, 0), (20, 20), (0, 0)]]), safe), False)


class Errors(unittest.TestCase):

    def check(self, number, ask, *given):
        with self.assertRaises(UnlikeKinds) as caught:
            ask(*given)
        self.assertIs(type(caught.exception), UnlikeKinds)
        self.assertEqual(caught.exception.value, (2, number))
        self.assertIs(type(caught.exception.value), tuple)

    def setUp(self):
        self.book = Book(["a", "b"], [("a", "b", "b")])
        self.one, self.three = Family(1, [[(0, None)]]), Family(3, [])

    def test_settled(self):
        self.check(1, settled, self.book, self.one)
        self.check(3, settled, self.book, self.three)

    def test_family_and_goal(self):
        one, three = self.one, self.three
        for ask in (settles, unsettled):
            for given, number in (([one, EVERY], 1), ([EVERY, one], 1), ([one, three], 1), ([three, one], 3),
                                  ([NONE, three], 3), ([three, NONE], 3), ([one, one], 1), ([three, three], 3)):
                self.check(number, ask, self.book, *given)

    def test_judge_settled(self):
        one, three = self.one, self.three
        for at in range(4):
            given = [NONE, EVERY, MIXED, ALL_B]
            for wrong in (one, three):
                given[at] = wrong
                self.check(wrong.kinds, judge_settled, self.book, *given)
            for later in range(at + 1, 4):
                given = [EVERY, NONE, MIXED, MIXED]
                given[at], given[later] = one, three
                self.check(1, judge_settled, self.book, *given)
                given[at], given[later] = three, one
                self.check(3, judge_settled, self.book, *given)
        self.check(3, judge_settled, self.book, three, one, one, one)
        self.check(1, judge_settled, self.book, one, three, three, three)


if __name__ == "__main__":
    unittest.main()
