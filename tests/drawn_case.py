"""What tests with drawn inputs check of families and runs that the program tells."""

import unittest

from plain import box_key, crowds_below, greatest_boxes, greatest_number, reached, run_ends

from lookcrowd.families import Family


class DrawnCase(unittest.TestCase):

    def check(self, family, inside, steps):
        self.assertEqual({crowd for crowd in steps.crowds if family.has(list(crowd))}, inside)

    def check_greatest(self, family):
        """The boxes of a family are its greatest ones: by trying all, as far as they are not too many."""
        boxes = family.boxes
        last = greatest_number(boxes) + 1
        if last <= (5 if family.kinds == 3 else 9):
            inside = {crowd for crowd in crowds_below(family.kinds, last + 1) if family.has(list(crowd))}
            self.assertEqual(boxes, greatest_boxes(family.kinds, inside, last))
        self.assertEqual(boxes, sorted(boxes, key=box_key))
        self.assertEqual(Family(family.kinds, boxes).boxes, boxes)

    def check_run(self, kinds, rules, crowd, run, is_goal):
        """A run of least length from a crowd to one of a goal, or None if there is none."""
        lengths = reached(kinds, rules, crowd)
        least = min((length for end, length in lengths.items() if is_goal(end)), default=None)
        if least is None:
            self.assertIsNone(run)
            return
        end = run_ends(kinds, crowd, run, rules)
        self.assertIsNotNone(end, (kinds, rules, crowd, run))
        self.assertTrue(is_goal(end), (kinds, rules, crowd, run))
        self.assertEqual(len(run), least)
