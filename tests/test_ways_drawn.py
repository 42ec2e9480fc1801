"""Promises [5], [7] and [9] at drawn books and families, going step by step through all crowds of some members."""

import random
import unittest

from drawn_case import DrawnCase
from plain import (
    Steps, TOP, box_key, crowds_below, crowds_of, draw_boxes, draw_family, draw_kinds_and_rules, greatest_number,
    is_closed_plainly, lies_in, lies_within_plainly)

from lookcrowd.families import Family
from lookcrowd.rules import Book
from lookcrowd.ways import can_become, is_closed, judge, leads_into, led_to, one_look, run_to, stays, witness


class Drawn(DrawnCase):

    def draw_book(self, drawn):
        kinds, rules = draw_kinds_and_rules(drawn)
        return kinds, rules, Book(kinds, rules)

    def test_families_that_come_about(self):
        drawn = random.Random(91)
        for case in range(1200):
            kinds, rules, book = self.draw_book(drawn)
            boxes = draw_family(drawn, len(kinds))
            family, steps = Family(len(kinds), boxes), Steps(kinds, rules)
            inside = steps.inside(boxes)
            told = [led_to(book, family), leads_into(book, family), one_look(book, family), stays(book, family)]
            self.check(told[0], steps.led_to(inside), steps)
            self.check(told[1], steps.leads_into(inside), steps)
            self.check(told[2], steps.one_look(inside), steps)
            self.check(told[3], steps.stays(inside), steps)
            if case % 10 == 0:
                for one in told:
                    self.check_greatest(one)

    def test_what_comes_about_is_closed(self):
        drawn = random.Random(92)
        for case in range(600):
            kinds, rules, book = self.draw_book(drawn)
            family = Family(len(kinds), draw_family(drawn, len(kinds)))
            ends, stay = led_to(book, family), stays(book, family)
            for closed in (ends, stay, ~leads_into(book, family)):
                self.assertIs(is_closed(book, closed), True)
                self.assertTrue(is_closed_plainly(kinds, rules, closed.boxes))
            self.assertTrue(family.within(ends) and stay.within(family))

    def test_told_boxes_and_kinds_in_another_order(self):
        drawn = random.Random(93)
        for case in range(500):
            kinds, rules, book = self.draw_book(drawn)
            family = Family(len(kinds), draw_family(drawn, len(kinds)))
            order = drawn.sample(range(len(kinds)), len(kinds))
            other = Book([kinds[at] for at in order], rules)
            turned = Family(len(kinds), [[box[at] for at in order] for box in family.boxes])
            for ask in (led_to, leads_into, one_look, stays):
                told = ask(book, family).boxes
                self.assertEqual(ask(book, Family(len(kinds), family.boxes[::-1])).boxes, told)
                moved = sorted([[box[at] for at in order] for box in told], key=box_key)
                self.assertEqual(ask(other, turned).boxes, moved)

    def test_is_closed(self):
        drawn = random.Random(94)
        met = {True: 0, False: 0}
        for case in range(1500):
            kinds, rules, book = self.draw_book(drawn)
            boxes = draw_boxes(drawn, len(kinds), drawn.randint(0, 2), TOP[len(kinds)])
            closed = is_closed_plainly(kinds, rules, boxes)
            met[closed and len(boxes) > 1] += 1
            self.assertIs(is_closed(book, Family(len(kinds), boxes)), closed, (kinds, rules, boxes))
        self.assertGreater(min(met.values()), 100)

    def draw_paper(self, drawn, book, family, goal):
        """The boxes of a paper that may be right, or wrong in one of several ways."""
        paper = drawn.choice([led_to(book, family), ~leads_into(book, goal), family, ~goal,
                              led_to(book, family) | ~leads_into(book, goal)])
        boxes = paper.boxes
        if boxes and drawn.random() < 0.3:
            boxes.pop(drawn.randrange(len(boxes)))
        return boxes

    def test_judge(self):
        drawn = random.Random(95)
        met = {}
        for case in range(2500):
            kinds, rules, book = self.draw_book(drawn)
            boxes, goals = draw_family(drawn, len(kinds)), draw_family(drawn, len(kinds))
            family, goal = Family(len(kinds), boxes), Family(len(kinds), goals)
            paper = self.draw_paper(drawn, book, family, goal)
            end = max(greatest_number(boxes), greatest_number(goals), greatest_number(paper)) + 2
            shown = (lies_within_plainly(len(kinds), boxes, paper),
                     not any(lies_in(goals, crowd) for crowd in crowds_below(len(kinds), end) if lies_in(paper, crowd)),
                     is_closed_plainly(kinds, rules, paper))
            met[shown] = met.get(shown, 0) + 1
            told = judge(book, family, goal, Family(len(kinds), paper))
            self.assertIs(told, all(shown), (kinds, rules, boxes, goals, paper))
        for shown in ((True, True, True), (False, True, True), (True, False, True), (True, True, False)):
            self.assertGreater(met.get(shown, 0), 25, met)

    def test_can_become_and_witness(self):
        drawn = random.Random(96)
        met = {True: 0, False: 0}
        for case in range(1500):
            kinds, rules, book = self.draw_book(drawn)
            boxes, goals = draw_family(drawn, len(kinds)), draw_family(drawn, len(kinds))
            family, goal, steps = Family(len(kinds), boxes), Family(len(kinds), goals), Steps(kinds, rules)
            wanted = steps.inside(goals)
            crowds = [crowd for crowd in steps.crowds if lies_in(boxes, crowd) and steps.ends[crowd] & wanted]
            told = witness(book, family, goal)
            met[bool(crowds)] += 1
            self.assertIs(can_become(book, family, goal), bool(crowds), (kinds, rules, boxes, goals))
            if not crowds:
                self.assertIsNone(told)
                continue
            self.assertIs(type(told), tuple)
            self.assertEqual(told[0], list(crowds[0]))
            self.check_run(kinds, rules, told[0], told[1], lambda end: lies_in(goals, end))
        self.assertGreater(min(met.values()), 200)

    def test_run_to(self):
        drawn = random.Random(97)
        lengths = {}
        for case in range(2500):
            kinds, rules, book = self.draw_book(drawn)
            goals = draw_family(drawn, len(kinds))
            crowd = list(drawn.choice(crowds_of(len(kinds), drawn.randint(0, 8))))
            run = run_to(book, crowd, Family(len(kinds), goals))
            self.check_run(kinds, rules, crowd, run, lambda end: lies_in(goals, end))
            length = None if run is None else len(run)
            lengths[length] = lengths.get(length, 0) + 1
        self.assertGreater(min(lengths[length] for length in (None, 0, 1, 2, 3, 4)), 10, lengths)

    def test_families_that_were_told(self):
        """What is told may be put together by signs, and handed in again, where [2] says so."""
        drawn = random.Random(98)
        for case in range(300):
            kinds, rules, book = self.draw_book(drawn)
            boxes, goals = draw_family(drawn, len(kinds)), draw_family(drawn, len(kinds))
            family, goal, steps = Family(len(kinds), boxes), Family(len(kinds), goals), Steps(kinds, rules)
            inside, wanted = steps.inside(boxes), steps.inside(goals)
            one, other = led_to(book, family), leads_into(book, goal)
            first, second = steps.led_to(inside), steps.leads_into(wanted)
            self.check(one & other, first & second, steps)
            self.check(one | other, first | second, steps)
            self.check(one - other, first - second, steps)
            self.check(~(one | ~other), set(steps.crowds) - (first | (set(steps.crowds) - second)), steps)
            self.assertIs(is_closed(book, one - other), is_closed_plainly(kinds, rules, (one - other).boxes))
            self.assertIs(judge(book, family - other, goal, ~other), True)
            self.check_greatest(one - other)


if __name__ == "__main__":
    unittest.main()
