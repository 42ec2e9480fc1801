"""Promises [6] and the interface of families: ordinary inputs, edges and errors."""

import unittest

from lookcrowd.errors import InvalidBox, InvalidCrowd, UnlikeKinds
from lookcrowd.families import Family

SIGNS = [lambda one, other: one & other, lambda one, other: one | other, lambda one, other: one - other]


class Boxes(unittest.TestCase):

    def check(self, kinds, boxes, told):
        family = Family(kinds, boxes)
        self.assertEqual(family.boxes, told)
        self.assertEqual(len(family), len(told))
        self.assertEqual(family.kinds, kinds)

    def test_one_box_is_told_as_it_is(self):
        for box in ([(0, 0)], [(0, None)], [(3, 3)], [(2, 7)], [(5, None)]):
            self.check(1, [box], [box])
        self.check(3, [[(1, 2), (0, None), (4, 4)]], [[(1, 2), (0, None), (4, 4)]])

    def test_no_boxes(self):
        for kinds in (1, 2, 3):
            self.check(kinds, [], [])

    def test_touching_boxes_are_one(self):
        self.check(1, [[(0, 2)], [(3, 5)], [(6, None)]], [[(0, None)]])
        self.check(1, [[(3, 5)], [(0, 2)]], [[(0, 5)]])
        self.check(2, [[(1, 1), (0, 3)], [(2, 2), (0, 3)]], [[(1, 2), (0, 3)]])
        self.check(2, [[(0, 3), (2, 2)], [(0, 3), (3, None)]], [[(0, 3), (2, None)]])

    def test_boxes_with_a_gap_stay_apart(self):
        self.check(1, [[(4, None)], [(0, 2)]], [[(0, 2)], [(4, None)]])

    def test_boxes_that_stand_twice_or_within(self):
        self.check(1, [[(1, 4)], [(1, 4)]], [[(1, 4)]])
        self.check(2, [[(1, 4), (0, 9)], [(2, 3), (5, 5)], [(1, 4), (0, 9)]], [[(1, 4), (0, 9)]])
        self.check(2, [[(2, 3), (5, 5)], [(0, None), (0, None)]], [[(0, None), (0, None)]])

    def test_a_box_over_two_others_is_told(self):
        self.check(2, [[(0, 1), (0, 3)], [(2, 4), (2, 5)]],
                   [[(0, 1), (0, 3)], [(0, 4), (2, 3)], [(2, 4), (2, 5)]])

    def test_a_box_that_no_two_others_make(self):
        # The middle row lies in three boxes, each with a part of it.
        self.check(2, [[(0, 0), (0, 1)], [(1, 1), (1, 2)], [(2, 2), (1, 3)]],
                   [[(0, 0), (0, 1)], [(0, 2), (1, 1)], [(1, 2), (1, 2)], [(2, 2), (1, 3)]])

    def test_three_kinds(self):
        self.check(3, [[(0, None), (0, 0), (0, 0)], [(0, 0), (0, None), (0, 0)], [(0, 0), (0, 0), (0, None)]],
                   [[(0, 0), (0, 0), (0, None)], [(0, 0), (0, None), (0, 0)], [(0, None), (0, 0), (0, 0)]])

    def test_order_least_then_most_then_none(self):
        self.check(2, [[(1, 1), (0, 0)], [(0, None), (5, 5)], [(0, 7), (4, 5)], [(0, 7), (7, None)]],
                   [[(0, 7), (4, 5)], [(0, 7), (7, None)], [(0, None), (5, 5)], [(1, 1), (0, 0)]])

    def test_order_of_numbers_with_more_digits(self):
        self.check(1, [[(10, 11)], [(2, 3)], [(100, None)]], [[(2, 3)], [(10, 11)], [(100, None)]])
        self.check(2, [[(0, 10), (4, 4)], [(0, 9), (0, 0)]], [[(0, 9), (0, 0)], [(0, 10), (4, 4)]])

    def test_order_most_of_one_kind_before_least_of_the_next(self):
        self.check(2, [[(0, 5), (0, 1)], [(0, 2), (3, 4)]], [[(0, 2), (3, 4)], [(0, 5), (0, 1)]])
        self.check(2, [[(0, None), (0, 1)], [(0, 2), (3, 4)]], [[(0, 2), (3, 4)], [(0, None), (0, 1)]])

    def test_great_numbers(self):
        great = 10 ** 30
        self.check(2, [[(0, great), (great, None)], [(great + 1, 3 * great), (great, None)]],
                   [[(0, 3 * great), (great, None)]])
        family = Family(1, [[(great, 2 * great)]])
        self.assertEqual((~family).boxes, [[(0, great - 1)], [(2 * great + 1, None)]])
        self.assertEqual([family.first(), family.bound()], [[great], 2 * great + 1])


class Questions(unittest.TestCase):

    def test_has(self):
        family = Family(2, [[(1, 3), (0, 0)], [(0, 0), (2, None)]])
        inside = [[1, 0], [3, 0], [0, 2], [0, 3], [0, 10 ** 20]]
        outside = [[0, 0], [4, 0], [1, 1], [0, 1], [1, 2], [2, 10 ** 20]]
        self.assertEqual([family.has(crowd) for crowd in inside], [True] * 5)
        self.assertEqual([family.has(crowd) for crowd in outside], [False] * 6)
        self.assertIs(family.has([1, 0]), True)
        self.assertIs(family.has([0, 0]), False)

    def test_first_by_members_then_as_a_list(self):
        self.assertEqual(Family(2, [[(3, None), (0, 0)], [(0, 0), (2, 2)]]).first(), [0, 2])
        self.assertEqual(Family(2, [[(0, None), (4, 4)], [(3, 3), (0, 0)]]).first(), [3, 0])
        self.assertEqual(Family(2, [[(2, 2), (1, 1)], [(1, 1), (2, 2)]]).first(), [1, 2])
        boxes = [[(1, 1), (1, 1), (0, 0)], [(0, 0), (2, 2), (0, 0)], [(1, 1), (0, 0), (1, 1)]]
        self.assertEqual(Family(3, boxes).first(), [0, 2, 0])
        self.assertEqual(Family(2, [[(0, None), (0, None)]]).first(), [0, 0])
        self.assertIsNone(Family(3, []).first())

    def test_bound(self):
        for boxes, bound in (([], 0), ([[(0, None)]], 0), ([[(0, 0)]], 1), ([[(1, None)]], 1), ([[(3, 3)]], 4),
                             ([[(0, 6)]], 7), ([[(6, None)]], 6), ([[(0, 4)], [(5, None)]], 0),
                             ([[(0, 4)], [(3, 8)], [(2, 2)]], 9), ([[(0, 4)], [(6, None)]], 6)):
            self.assertEqual(Family(1, boxes).bound(), bound, boxes)
        self.assertEqual(Family(2, [[(0, None), (2, None)], [(3, None), (0, None)]]).bound(), 3)
        self.assertEqual(Family(2, [[(0, None), (0, 9)], [(0, None), (4, None)]]).bound(), 0)

    def test_within(self):
        small, great = Family(1, [[(1, 2)], [(4, 4)]]), Family(1, [[(0, 2)], [(3, 7)]])
        self.assertIs(small.within(great), True)
        self.assertIs(great.within(small), False)
        self.assertIs(small.within(small), True)
        self.assertIs(Family(1, []).within(Family(1, [])), True)
        self.assertIs(Family(1, []).within(small), True)
        self.assertIs(small.within(Family(1, [])), False)
        # One box may need several boxes of the other family.
        self.assertIs(Family(2, [[(0, 3), (1, 1)]]).within(Family(2, [[(0, 1), (0, 1)], [(2, 3), (1, 4)]])), True)
        self.assertIs(Family(1, [[(0, None)]]).within(Family(1, [[(0, 50)]])), False)
        self.assertIs(Family(1, [[(0, 50)]]).within(Family(1, [[(0, None)]])), True)


class Equality(unittest.TestCase):

    def test_the_same_crowds(self):
        self.assertTrue(Family(1, [[(0, 2)], [(3, 5)]]) == Family(1, [[(2, 5)], [(0, 4)]]))
        self.assertFalse(Family(1, [[(0, 2)], [(3, 5)]]) != Family(1, [[(2, 5)], [(0, 4)]]))
        self.assertFalse(Family(1, [[(0, 5)]]) == Family(1, [[(0, None)]]))
        self.assertTrue(Family(1, [[(0, 5)]]) != Family(1, [[(1, 5)]]))

    def test_unlike_kinds_are_unequal(self):
        self.assertTrue(Family(1, []) != Family(2, []))
        self.assertFalse(Family(2, []) == Family(3, []))
        self.assertFalse(Family(1, [[(0, None)]]) == Family(2, [[(0, None), (0, None)]]))

    def test_nothing_else_is_equal(self):
        family = Family(1, [[(0, 2)]])
        for other in (None, 0, 1, "1; 0..2", [[(0, 2)]], family.boxes, (1, [[(0, 2)]]), True, object()):
            self.assertFalse(family == other)
            self.assertFalse(other == family)
            self.assertTrue(family != other)
        self.assertFalse(Family(1, []) == [])
        self.assertFalse(Family(1, []) == None)  # noqa: E711


class Signs(unittest.TestCase):

    def setUp(self):
        self.one = Family(1, [[(0, 3)], [(6, None)]])
        self.other = Family(1, [[(2, 7)]])

    def test_signs(self):
        self.assertEqual((self.one & self.other).boxes, [[(2, 3)], [(6, 7)]])
        self.assertEqual((self.one | self.other).boxes, [[(0, None)]])
        self.assertEqual((self.one - self.other).boxes, [[(0, 1)], [(8, None)]])
        self.assertEqual((self.other - self.one).boxes, [[(4, 5)]])
        self.assertEqual((~self.one).boxes, [[(4, 5)]])
        self.assertEqual((~self.other).boxes, [[(0, 1)], [(8, None)]])

    def test_with_none_and_all(self):
        none, every = Family(1, []), Family(1, [[(0, None)]])
        self.assertEqual([~none, ~every, self.one & none, self.one | none, self.one - none, none - self.one],
                         [every, none, none, self.one, self.one, none])
        self.assertEqual([self.one & every, self.one | every, self.one - every, every - self.one, self.one - self.one],
                         [self.one, every, none, ~self.one, none])

    def test_signs_tell_families(self):
        for family in (self.one & self.other, self.one | self.other, self.one - self.other, ~self.one):
            self.assertIsInstance(family, Family)
            self.assertEqual(family.kinds, 1)

    def test_families_stay(self):
        for sign in SIGNS:
            sign(self.one, self.other)
        self.assertEqual([self.one.boxes, self.other.boxes], [[[(0, 3)], [(6, None)]], [[(2, 7)]]])


class Errors(unittest.TestCase):

    def check_box(self, kinds, boxes, index):
        with self.assertRaises(InvalidBox) as caught:
            Family(kinds, boxes)
        self.assertEqual(caught.exception.value, index)
        self.assertIs(type(caught.exception), InvalidBox)

    def test_number_of_tuples(self):
        self.check_box(2, [[(0, 1)]], 0)
        self.check_box(2, [[(0, 1), (0, 1), (0, 1)]], 0)
        self.check_box(1, [[(0, 1)], []], 1)
        self.check_box(3, [[(0, 1), (0, 1), (0, None)], [(0, 1), (0, 1), (0, None)], [(0, 1), (0, 1)]], 2)

    def test_numbers(self):
        self.check_box(1, [[(-1, 1)]], 0)
        self.check_box(1, [[(-1, None)]], 0)
        self.check_box(1, [[(-2, -1)]], 0)
        self.check_box(1, [[(0, -1)]], 0)
        self.check_box(1, [[(2, 1)]], 0)
        self.check_box(1, [[(5, 5)], [(6, 5)]], 1)
        self.check_box(3, [[(0, 1), (3, 3), (2, 1)]], 0)
        self.check_box(3, [[(0, 0), (0, 0), (0, 0)], [(0, 0), (-1, 0), (0, 0)]], 1)

    def test_the_first_wrong_box(self):
        good, short, under, upside = [(0, 1), (0, 1)], [(0, 1)], [(0, 0), (-1, 0)], [(4, 3), (0, 0)]
        for wrong in (short, under, upside):
            for later in (short, under, upside):
                self.check_box(2, [good, wrong, good, later], 1)
                self.check_box(2, [wrong, later], 0)
        # Boxes that lie in others, or stand twice, are counted, and looked at, too.
        self.check_box(2, [[(0, None), (0, None)], good, good, upside], 3)

    def test_edges_that_are_no_errors(self):
        self.assertEqual(Family(1, [[(0, 0)]]).boxes, [[(0, 0)]])
        self.assertEqual(Family(1, [[(7, 7)]]).boxes, [[(7, 7)]])

    def test_crowd(self):
        family = Family(2, [[(0, None), (0, None)]])
        for crowd in ([], [1], [1, 2, 3], [-1, 0], [0, -1], [-1, -1], [-1], [0, 0, -1]):
            with self.assertRaises(InvalidCrowd) as caught:
                family.has(crowd)
            self.assertEqual(caught.exception.value, crowd)
            self.assertIsNot(caught.exception.value, crowd)
        with self.assertRaises(InvalidCrowd):
            Family(2, []).has([-1, 0])

    def test_unlike_kinds(self):
        one, other = Family(1, [[(0, 1)]]), Family(3, [])
        for ask in SIGNS + [lambda one, other: one.within(other)]:
            for first, second in ((one, other), (other, one)):
                with self.assertRaises(UnlikeKinds) as caught:
                    ask(first, second)
                self.assertEqual(caught.exception.value, (first.kinds, second.kinds))
                self.assertIs(type(caught.exception.value), tuple)
        with self.assertRaises(UnlikeKinds):
            Family(1, []).within(Family(2, []))


if __name__ == "__main__":
    unittest.main()
