"""The whole program: questions of all modules in drawn sequences, each compared with that to objects made just then."""

import random
import unittest

from plain import NAMES, TOP, all_rules, draw_boxes, draw_rules
from values import plain, spoil

from lookcrowd.crowds import Crowd
from lookcrowd.errors import CrowdError
from lookcrowd.families import Family
from lookcrowd.readings import read_book, read_family
from lookcrowd.rules import Book, can_do, done, first_unlike, follow, follows, least_rules, needless
from lookcrowd.settling import judge_settled, may_rest, rests, settled, settles, surely_rests, unsettled
from lookcrowd.texts import show_book, show_family
from lookcrowd.ways import can_become, is_closed, judge, leads_into, led_to, one_look, run_to, stays, witness

BOOKS, FAMILIES, CROWDS = 3, 4, 3


class World:
    """Some books, families and live crowds, made of plain values."""

    def __init__(self, names, rules, boxes, counts):
        kinds = len(names)
        self.books = [Book(list(names), list(held)) for held in rules]
        self.families = [Family(kinds, [list(box) for box in held]) for held in boxes]
        # The first two crowds share a book.
        self.crowds = [Crowd(self.books[max(0, at - 1)], list(held)) for at, held in enumerate(counts)]
        # A family of another number of kinds, and a book of other kinds.
        self.families.append(Family(kinds + 1, []))
        self.books.append(Book(list(names[::-1]) + ["z"], []))


def draw_plan(drawn):
    """The plain values of a world."""
    names = NAMES[:drawn.choice([1, 2, 2, 3, 3])]
    kinds = len(names)
    rules = [draw_rules(drawn, names, 5) for _ in range(BOOKS)]
    boxes = [draw_boxes(drawn, kinds, drawn.randint(0, 2), TOP[kinds]) for _ in range(FAMILIES)]
    counts = [[drawn.randint(0, 3) for _ in names] for _ in range(CROWDS)]
    return names, rules, boxes, counts


def family_questions(drawn):
    one, two = drawn.randrange(FAMILIES), drawn.randrange(FAMILIES + 1)
    crowd = [drawn.randint(0, 2) for _ in range(drawn.choice([1, 2, 3, 3]))]
    return [
        lambda w: w.families[one].boxes, lambda w: w.families[one].kinds, lambda w: w.families[one].first(),
        lambda w: w.families[one].bound(), lambda w: len(w.families[one]), lambda w: w.families[one].has(crowd),
        lambda w: w.families[one] & w.families[two], lambda w: w.families[one] | w.families[two],
        lambda w: w.families[one] - w.families[two], lambda w: ~w.families[one],
        lambda w: w.families[one].within(w.families[two]), lambda w: w.families[one] == w.families[two],
        lambda w: show_family(w.families[one]), lambda w: read_family(show_family(w.families[one])),
        lambda w: read_family(show_family(w.families[one]) + "; 0.. 0.."),
    ]


def book_questions(drawn, names):
    one, two = drawn.randrange(BOOKS), drawn.randrange(BOOKS + 1)
    crowd = [drawn.randint(0, 2) for _ in range(drawn.choice([len(names)] * 4 + [1, 2, 3]))]
    rule = tuple(drawn.choice(names + names + ["x"]) for _ in range(3))
    if drawn.random() < 0.7 and len(names) > 1:
        rule = drawn.choice(all_rules(names))
    return [
        lambda w: w.books[one].kinds, lambda w: w.books[one].rules, lambda w: len(w.books[one]),
        lambda w: w.books[one].without(rule), lambda w: w.books[one] == w.books[two],
        lambda w: can_do(w.books[one], crowd), lambda w: done(w.books[one], crowd, rule),
        lambda w: follow(w.books[one], crowd, w.books[one].rules), lambda w: follows(w.books[one], rule),
        lambda w: needless(w.books[one]), lambda w: least_rules(w.books[one]),
        lambda w: first_unlike(w.books[one], w.books[two]), lambda w: show_book(w.books[one]),
        lambda w: read_book(show_book(w.books[one])), lambda w: read_book(show_book(w.books[one]) + "; a sees a: a"),
        lambda w: rests(w.books[one]), lambda w: may_rest(w.books[one]), lambda w: surely_rests(w.books[one]),
    ]


def way_questions(drawn, names):
    held, one, two = drawn.randrange(BOOKS), drawn.randrange(FAMILIES + 1), drawn.randrange(FAMILIES + 1)
    if drawn.random() < 0.8:
        one, two = one % FAMILIES, two % FAMILIES
    crowd = [drawn.randint(0, 2) for _ in names]
    asked = [lambda w, ask=ask: ask(w.books[held], w.families[one])
             for ask in (led_to, leads_into, one_look, is_closed, stays, settled)]
    asked += [lambda w, ask=ask: ask(w.books[held], w.families[one], w.families[two])
              for ask in (can_become, witness, settles, unsettled)]
    return asked + [
        lambda w: run_to(w.books[held], crowd, w.families[one]),
        lambda w: judge(w.books[held], w.families[one], w.families[two], led_to(w.books[held], w.families[one])),
        lambda w: judge(w.books[held], w.families[one], w.families[two], w.families[two]),
        lambda w: judge_settled(w.books[held], w.families[one], w.families[two],
                                led_to(w.books[held], w.families[one]), stays(w.books[held], w.families[two])),
        lambda w: judge_settled(w.books[held], w.families[one], w.families[two], w.families[two], w.families[one]),
    ]


def crowd_questions(drawn, names):
    """Questions that change no crowd."""
    one, two, held = drawn.randrange(CROWDS), drawn.randrange(CROWDS), drawn.randrange(FAMILIES + 1)
    kind = drawn.choice(names * 3 + ["x"])
    return [
        lambda w: w.crowds[one].counts, lambda w: w.crowds[one].run, lambda w: w.crowds[one].able(),
        lambda w: len(w.crowds[one]), lambda w: w.crowds[one][kind], lambda w: w.crowds[one] == w.crowds[two],
        lambda w: w.crowds[one].lies_in(w.families[held]), lambda w: w.crowds[one].admit(kind, 0),
        lambda w: w.crowds[one]("x", "a", "b"),
    ]


def crowd_steps(drawn, names):
    """Steps of a live crowd; some raise an error."""
    one, kind = drawn.randrange(CROWDS), drawn.choice(names)
    rule = drawn.choice(all_rules(names)) if len(names) > 1 else (kind, kind, kind)
    many, at = drawn.randint(1, 2), drawn.randrange(5)

    def do_some(w):
        able = w.crowds[one].able()
        return w.crowds[one](*able[at % len(able)]) if able else w.crowds[one].undo()

    return [do_some, do_some, lambda w: w.crowds[one](*rule), lambda w: w.crowds[one].admit(kind, many),
            lambda w: w.crowds[one].undo()]


class Sequences(unittest.TestCase):

    def draw_question(self, drawn, names):
        asked = drawn.choice([family_questions(drawn), book_questions(drawn, names), way_questions(drawn, names),
                              way_questions(drawn, names), crowd_questions(drawn, names)])
        return drawn.choice(asked)

    def outcome(self, ask, world):
        """What a question tells, in plain lists; told lists are changed afterwards."""
        try:
            told, error = ask(world), None
        except CrowdError as raised:
            told, error = raised.value, type(raised)
        kept = plain(told)
        spoil([told])
        return [error, kept]

    def check_steps(self, plan, world, steps):
        """Every crowd is as if it had been made just now, and done its steps alone."""
        fresh = World(*plan)
        for step in steps:
            self.outcome(step, fresh)
        self.assertEqual([plain(crowd) for crowd in world.crowds], [plain(crowd) for crowd in fresh.crowds])
        return fresh

    def test_in_drawn_sequences(self):
        drawn = random.Random(141)
        for case in range(150):
            plan = draw_plan(drawn)
            world, steps = World(*plan), []
            for _ in range(40):
                if drawn.random() < 0.25:
                    step = drawn.choice(crowd_steps(drawn, plan[0]))
                    fresh = self.check_steps(plan, world, steps)
                    self.assertEqual(self.outcome(step, world), self.outcome(step, fresh))
                    steps.append(step)
                fresh = self.check_steps(plan, world, steps)
                ask = self.draw_question(drawn, plan[0])
                self.assertEqual(self.outcome(ask, world), self.outcome(ask, fresh))
            self.assertEqual([plain(held) for held in world.books + world.families],
                             [plain(held) for held in World(*plan).books + World(*plan).families])

    def test_the_same_questions_again_and_again(self):
        drawn = random.Random(142)
        for case in range(60):
            plan = draw_plan(drawn)
            world = World(*plan)
            asked = [self.draw_question(drawn, plan[0]) for _ in range(25)]
            told = [self.outcome(ask, World(*plan)) for ask in asked]
            for _ in range(60):
                at = drawn.randrange(len(asked))
                self.assertEqual(self.outcome(asked[at], world), told[at])

    def test_what_is_told_is_asked_on(self):
        """Families that come out of one module go into others, as [2] allows."""
        drawn = random.Random(143)
        for case in range(250):
            names, rules, boxes, _ = draw_plan(drawn)
            kinds, held = len(names), Book(names, rules[0])
            one, goal = Family(kinds, boxes[0]), Family(kinds, boxes[1])
            led, safe, sure = led_to(held, one), stays(held, goal), settled(held, goal)
            self.assertIs(settles(held, one, goal), one.within(sure))
            self.assertIs(settles(held, one, goal), judge_settled(held, one, goal, led, safe))
            self.assertIs(led.within(sure), one.within(sure))
            self.assertTrue(safe.within(sure & goal) and sure.within(leads_into(held, goal)))
            self.assertIs(judge(held, sure, ~leads_into(held, goal), sure), True)
            self.assertIs(is_closed(held, sure - (sure - safe)), True)
            self.assertTrue(surely_rests(held).within(may_rest(held)) and rests(held).within(surely_rests(held)))
            told = unsettled(held, one, goal)
            if told is not None:
                crowd, run = told
                live = Crowd(held, crowd)
                self.assertIs(live.lies_in(one - sure), True)
                for rule in run:
                    live(*rule)
                self.assertEqual([live.run, live.counts], [run, follow(held, crowd, run)])
                self.assertIsNone(run_to(held, live.counts, safe))
            for family in (led, safe, sure, rests(held), may_rest(held)):
                if len(family) <= 8:
                    self.assertTrue(read_family(show_family(family)) == family)
            self.assertTrue(read_book(show_book(held)) == held)


if __name__ == "__main__":
    unittest.main()
