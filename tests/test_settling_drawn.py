"""Promises [7], [8] and [9] at drawn books and families, going step by step through all crowds of some members."""

import random
import unittest

from drawn_case import DrawnCase
from plain import (
    NAMES, Steps, TOP, all_rules, box_key, crowds_below, crowds_of, draw_box, draw_family, draw_kinds_and_rules,
    is_closed_plainly, lies_in, lies_within_plainly)

from lookcrowd.families import Family
from lookcrowd.rules import Book
from lookcrowd.settling import judge_settled, may_rest, rests, settled, settles, surely_rests, unsettled
from lookcrowd.ways import is_closed, leads_into, led_to, stays


def draw_moves(drawn, kinds, most):
    """Rules, many of them such that a kind sees its own or takes the kind of what it sees."""
    rules = all_rules(kinds)
    near = [rule for rule in rules if rule[1] in (rule[0], rule[2])]
    rules = drawn.choice([rules, near])
    return drawn.sample(rules, min(len(rules), drawn.randint(0, most)))


def draw_book(drawn):
    kinds, rules = draw_kinds_and_rules(drawn)
    if drawn.random() < 0.6:
        rules = draw_moves(drawn, kinds, 5)
    return kinds, rules, Book(kinds, rules)


def parted(drawn, boxes):
    """Other boxes of the same family: some of them in two parts, which touch or overlap, and in another order."""
    parts = []
    for box in boxes:
        at = drawn.randrange(len(box))
        least, most = box[at]
        cut = least + drawn.randint(0, 2)
        if most is None or cut < most:
            parts.append(box[:at] + [(least, drawn.choice([cut, cut + 1]) if most is None else cut)] + box[at + 1:])
            parts.append(box[:at] + [(drawn.choice([cut, cut + 1, least]), most)] + box[at + 1:])
        else:
            parts.append(box)
    drawn.shuffle(parts)
    return parts


def walk(drawn, steps, crowd, length):
    """The crowds of a fair run: from each crowd it takes the ways on in turns."""
    turns, told = {}, [crowd]
    for _ in range(length):
        ways = turns.setdefault(crowd, drawn.sample(sorted(steps.next[crowd]), len(steps.next[crowd])))
        if not ways:
            break
        ways.append(ways.pop(0))
        crowd = ways[-1]
        told.append(crowd)
    return told


class Drawn(DrawnCase):

    def test_the_two_plain_answers_agree(self):
        """What [9] says of settling is what [7] says."""
        drawn = random.Random(101)
        for case in range(600):
            kinds, rules, _ = draw_book(drawn)
            steps = Steps(kinds, rules)
            inside = steps.inside(draw_family(drawn, len(kinds)))
            self.assertEqual(steps.settled(inside), steps.settled_by_runs(inside))

    def test_settled(self):
        drawn = random.Random(102)
        some = 0
        for case in range(2000):
            kinds, rules, book = draw_book(drawn)
            goals = draw_family(drawn, len(kinds))
            goal, steps = Family(len(kinds), goals), Steps(kinds, rules)
            told, inside = settled(book, goal), steps.inside(goals)
            self.check(told, steps.settled_by_runs(inside), steps)
            some += told not in (goal, stays(book, goal), leads_into(book, goal))
            if case % 8 == 0:
                self.check_greatest(told)
            self.assertTrue(stays(book, goal).within(told))
            self.assertIs(is_closed(book, told), True)
        self.assertGreater(some, 60)

    def test_rests(self):
        drawn = random.Random(103)
        sure = 0
        for case in range(1500):
            kinds, rules, book = draw_book(drawn)
            steps = Steps(kinds, rules)
            resting = steps.rests()
            told = [rests(book), may_rest(book), surely_rests(book)]
            self.check(told[0], resting, steps)
            self.check(told[1], steps.leads_into(resting), steps)
            self.check(told[2], steps.settled_by_runs(resting), steps)
            sure += told[2] not in (told[0], told[1])
            if case % 8 == 0:
                for one in told:
                    self.check_greatest(one)
        self.assertGreater(sure, 10)

    def draw_among(self, drawn, crowds):
        """The boxes of some crowds of a family that have small numbers; None if it has none within bounds."""
        top = TOP[crowds.kinds]
        found = [crowd for crowd in crowds_below(crowds.kinds, top + 1) if crowds.has(list(crowd))]
        if not found:
            return None
        return [[(many, drawn.choice([many, top, None])) for many in drawn.choice(found)]]

    def draw_question(self, drawn, case):
        """A book, a family and a goal: any, or such that many crowds settle, or settle in some fair runs only."""
        boxes = None
        while boxes is None:
            kinds, rules, book = draw_book(drawn)
            goals = draw_family(drawn, len(kinds))
            goal = Family(len(kinds), goals)
            if case % 3 == 0:
                boxes = draw_family(drawn, len(kinds))
            elif case % 3 == 1:
                boxes = self.draw_among(drawn, settled(book, goal))
            else:
                boxes = self.draw_among(drawn, leads_into(book, stays(book, goal)) - settled(book, goal))
        return kinds, rules, book, boxes, goals

    def test_settles_and_unsettled(self):
        drawn = random.Random(104)
        met, lengths = {True: 0, False: 0}, {}
        for case in range(3000):
            kinds, rules, book, boxes, goals = self.draw_question(drawn, case)
            steps = Steps(kinds, rules)
            inside = steps.inside(goals)
            kept, surely = steps.stays(inside), steps.settled_by_runs(inside)
            family, goal = Family(len(kinds), boxes), Family(len(kinds), goals)
            crowds = [crowd for crowd in steps.crowds if lies_in(boxes, crowd) and crowd not in surely]
            told = unsettled(book, family, goal)
            met[not crowds] += 1
            self.assertIs(settles(book, family, goal), not crowds, (kinds, rules, boxes, goals))
            if not crowds:
                self.assertIsNone(told)
                continue
            self.assertIs(type(told), tuple)
            self.assertEqual(told[0], list(crowds[0]))
            self.check_run(kinds, rules, told[0], told[1], lambda end: not steps.ends[end] & kept)
            lengths[len(told[1])] = lengths.get(len(told[1]), 0) + 1
        self.assertGreater(min(met.values()), 500, met)
        self.assertGreater(min(lengths.get(length, 0) for length in (0, 1, 2)), 10, lengths)

    def test_fair_runs(self):
        """Fair runs from crowds that settle at last stay in the goal; from others some fair run does not."""
        drawn = random.Random(105)
        met = {True: 0, False: 0}
        for case in range(400):
            kinds, rules, book = draw_book(drawn)
            goals = draw_family(drawn, len(kinds))
            goal, steps = Family(len(kinds), goals), Steps(kinds, rules)
            told = settled(book, goal)
            for crowd in drawn.sample(crowds_of(len(kinds), drawn.randint(2, 4) if len(kinds) > 1 else 2), 1):
                tails = [walk(drawn, steps, crowd, 1200)[-60:] for _ in range(5)]
                if told.has(list(crowd)):
                    met[True] += 1
                    self.assertTrue(all(steps.ends[tail[-1]] <= steps.inside(goals) for tail in tails))
                    # A run that cannot go on stays where it ends.
                    self.assertTrue(all(lies_in(goals, tail[-1]) for tail in tails))
                else:
                    met[False] += 1
                    run = unsettled(book, Family(len(kinds), [[(many, many) for many in crowd]]), goal)[1]
                    end = crowd
                    for rule in run:
                        end = tuple(many - (name == rule[0]) + (name == rule[2]) for name, many in zip(kinds, end))
                    tail = walk(drawn, steps, end, 1200)
                    self.assertFalse(steps.ends[tail[-1]] <= steps.inside(goals))
        self.assertGreater(min(met.values()), 50)

    def test_told_boxes_and_kinds_in_another_order(self):
        drawn = random.Random(106)
        for case in range(400):
            kinds, rules, book = draw_book(drawn)
            many = len(kinds)
            family, goal = Family(many, draw_family(drawn, many)), Family(many, draw_family(drawn, many))
            order = drawn.sample(range(many), many)
            turned_book = Book([kinds[at] for at in order], rules)

            def turned(one):
                return Family(many, [[box[at] for at in order] for box in one.boxes])

            told = settled(book, goal)
            self.assertEqual(settled(book, Family(many, goal.boxes[::-1])).boxes, told.boxes)
            self.assertEqual(settled(turned_book, turned(goal)).boxes, turned(told).boxes)
            self.assertEqual(turned(told).boxes, sorted(turned(told).boxes, key=box_key))
            self.assertIs(settles(turned_book, turned(family), turned(goal)), settles(book, family, goal))
            for ask in (rests, may_rest, surely_rests):
                self.assertEqual(ask(turned_book).boxes, turned(ask(book)).boxes)

    def draw_led(self, drawn, book, family, goal):
        """A paper: what is led to, or more of what settles, or something near to it."""
        least, most = led_to(book, family), settled(book, goal)
        return drawn.choice([least, least, most, least | most, least & most, family, leads_into(book, family)])

    def draw_safe(self, drawn, book, family, goal):
        """A paper: what stays in the goal, or less of it, or something near to it."""
        most = stays(book, goal)
        return drawn.choice([most, most, most & led_to(book, family), goal, most & family, led_to(book, goal),
                             most - rests(book), most | rests(book)])

    def near(self, drawn, family):
        """The boxes of a paper, now and then with one less, one more, or one with other numbers."""
        boxes = parted(drawn, family.boxes)
        chance = drawn.random()
        if boxes and chance < 0.15:
            boxes.pop(drawn.randrange(len(boxes)))
        elif chance < 0.25:
            boxes.append(draw_box(drawn, family.kinds, 2))
        elif boxes and chance < 0.35:
            at = drawn.randrange(len(boxes))
            kind = drawn.randrange(family.kinds)
            least, most = boxes[at][kind]
            boxes[at] = list(boxes[at])
            boxes[at][kind] = (least + 1, None if most is None else most + 1)
        return boxes

    def shown(self, kinds, rules, steps, boxes, goals, led, safe):
        """What the two papers show, one after the other."""
        inside = steps.inside(safe)
        return (lies_within_plainly(len(kinds), boxes, led), is_closed_plainly(kinds, rules, led),
                is_closed_plainly(kinds, rules, safe), lies_within_plainly(len(kinds), safe, goals),
                all(steps.ends[crowd] & inside for crowd in steps.inside(led)))

    def test_judge_settled(self):
        drawn = random.Random(107)
        met = {}
        for case in range(4000):
            kinds, rules, book = draw_book(drawn)
            many = len(kinds)
            boxes, goals = draw_family(drawn, many), draw_family(drawn, many)
            family, goal = Family(many, boxes), Family(many, goals)
            if case % 2 == 0:
                family = family & settled(book, goal)
                boxes = family.boxes
            led = self.near(drawn, self.draw_led(drawn, book, family, goal))
            safe = self.near(drawn, self.draw_safe(drawn, book, family, goal))
            shown = self.shown(kinds, rules, Steps(kinds, rules), boxes, goals, led, safe)
            met[shown] = met.get(shown, 0) + 1
            told = judge_settled(book, family, goal, Family(many, led), Family(many, safe))
            self.assertIs(told, all(shown), (kinds, rules, boxes, goals, led, safe, shown))
            if told:
                self.assertIs(settles(book, Family(many, boxes), goal), True)
        self.assertGreater(met[(True,) * 5], 300)
        for lacking in range(5):
            self.assertGreater(met.get(tuple(at != lacking for at in range(5)), 0), 20, met)

    def test_right_papers(self):
        """Whatever settles can be shown by what it leads to and what stays in the goal."""
        drawn = random.Random(108)
        met = {True: 0, False: 0}
        for case in range(1500):
            kinds, rules, book = draw_book(drawn)
            family = Family(len(kinds), draw_family(drawn, len(kinds)))
            goal = Family(len(kinds), draw_family(drawn, len(kinds)))
            right = settles(book, family, goal)
            met[right] += 1
            self.assertIs(judge_settled(book, family, goal, led_to(book, family), stays(book, goal)), right)
            surely = settled(book, goal)
            self.assertIs(judge_settled(book, surely, goal, surely, stays(book, goal)), True)
        self.assertGreater(min(met.values()), 200)

    def test_without_rules(self):
        drawn = random.Random(109)
        for case in range(200):
            kinds = NAMES[:drawn.choice([1, 2, 3])]
            book, every = Book(kinds, []), Family(len(kinds), [[(0, None)] * len(kinds)])
            family = Family(len(kinds), draw_family(drawn, len(kinds)))
            goal = Family(len(kinds), draw_family(drawn, len(kinds)))
            self.assertTrue(settled(book, goal) == goal)
            self.assertIs(settles(book, family, goal), family.within(goal))
            self.assertTrue(rests(book) == may_rest(book) == surely_rests(book) == every)
            self.assertIs(judge_settled(book, family, goal, family, goal), family.within(goal))
            left = (family - goal).first()
            self.assertEqual(unsettled(book, family, goal), None if left is None else (left, []))


if __name__ == "__main__":
    unittest.main()
