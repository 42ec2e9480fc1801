"""Promises [2] and [3] for every call: arguments stay, what is told is new, names of arguments, the same answers."""

import copy
import unittest

from values import answer, lists_in, plain, spoil

from lookcrowd.crowds import Crowd
from lookcrowd.errors import CrowdError
from lookcrowd.families import Family
from lookcrowd.readings import read_book, read_family
from lookcrowd.rules import Book, can_do, done, first_unlike, follow, follows, least_rules, needless
from lookcrowd.settling import judge_settled, may_rest, rests, settled, settles, surely_rests, unsettled
from lookcrowd.texts import show_book, show_family
from lookcrowd.ways import can_become, is_closed, judge, leads_into, led_to, one_look, run_to, stays, witness

KINDS = ["a", "b", "c"]
RULES = [("a", "b", "c"), ("c", "b", "b"), ("a", "b", "b"), ("b", "b", "a")]
BOXES = [[(0, 1), (1, None), (0, 0)], [(1, 1), (0, 1), (0, None)]]
OTHERS = [[(0, None), (0, 0), (1, 1)]]


# Objects that many calls are asked of, one after the other.
BOOK, FAMILY, OTHER = Book(KINDS, RULES), Family(3, BOXES), Family(3, OTHERS)


def book():
    return Book(KINDS, RULES)


def family():
    return Family(3, BOXES)


def other():
    return Family(3, OTHERS)


def live():
    """A crowd behind some steps."""
    crowd = Crowd(book(), [2, 1, 0])
    crowd("a", "b", "c")
    crowd.admit("b", 2)
    crowd("c", "b", "b")
    return crowd


# A crowd that many questions are asked of; none of the calls below changes it.
LIVE = live()


# Each call: what is called, and what makes its arguments anew, by name, in order.
CALLS = [
    (Family, lambda: {"kinds": 3, "boxes": copy.deepcopy(BOXES)}),
    (FAMILY.has, lambda: {"crowd": [1, 2, 0]}),
    (FAMILY.within, lambda: {"other": other()}),
    (lambda: FAMILY.boxes, dict),
    (lambda: FAMILY.kinds, dict),
    (lambda: FAMILY.first(), dict),
    (lambda: FAMILY.bound(), dict),
    (lambda: (FAMILY & OTHER).boxes, dict),
    (lambda: (FAMILY | OTHER).boxes, dict),
    (lambda: (FAMILY - OTHER).boxes, dict),
    (lambda: (~FAMILY).boxes, dict),
    (Book, lambda: {"kinds": list(KINDS), "rules": list(RULES)}),
    (lambda: BOOK.kinds, dict),
    (lambda: BOOK.rules, dict),
    (BOOK.without, lambda: {"rule": ("a", "b", "c")}),
    (can_do, lambda: {"book": book(), "crowd": [1, 2, 3]}),
    (done, lambda: {"book": book(), "crowd": [1, 2, 3], "rule": ("a", "b", "c")}),
    (follow, lambda: {"book": book(), "crowd": [1, 2, 3], "run": [("a", "b", "c"), ("c", "b", "b")]}),
    (follow, lambda: {"book": book(), "crowd": [1, 2, 3], "run": []}),
    (follows, lambda: {"book": book(), "rule": ("a", "c", "b")}),
    (needless, lambda: {"book": book()}),
    (least_rules, lambda: {"book": book()}),
    (first_unlike, lambda: {"one": book(), "other": book().without(("b", "b", "a"))}),
    (led_to, lambda: {"book": book(), "family": family()}),
    (leads_into, lambda: {"book": book(), "family": family()}),
    (one_look, lambda: {"book": book(), "family": family()}),
    (is_closed, lambda: {"book": book(), "family": family()}),
    (stays, lambda: {"book": book(), "family": family()}),
    (can_become, lambda: {"book": book(), "family": family(), "goal": other()}),
    (run_to, lambda: {"book": book(), "crowd": [1, 2, 0], "goal": other()}),
    (run_to, lambda: {"book": book(), "crowd": [1, 2, 1], "goal": Family(3, [[(0, 0), (0, None), (0, 0)]])}),
    (witness, lambda: {"book": book(), "family": family(), "goal": other()}),
    (judge, lambda: {"book": book(), "family": family(), "goal": other(), "paper": family()}),
    (judge, lambda: {"book": book(), "family": Family(3, []), "goal": other(), "paper": Family(3, [])}),
    (settled, lambda: {"book": book(), "goal": family()}),
    (settles, lambda: {"book": book(), "family": family(), "goal": other()}),
    (settles, lambda: {"book": book(), "family": Family(3, []), "goal": other()}),
    (unsettled, lambda: {"book": book(), "family": family(), "goal": other()}),
    (unsettled, lambda: {"book": Book(["a", "b"], [("a", "b", "b"), ("b", "a", "a")]),
                         "family": Family(2, [[(1, 1), (2, 2)]]), "goal": Family(2, [[(0, 0), (0, None)]])}),
    (rests, lambda: {"book": book()}),
    (may_rest, lambda: {"book": book()}),
    (surely_rests, lambda: {"book": book()}),
    (judge_settled, lambda: {"book": book(), "family": family(), "goal": other(), "led": led_to(book(), family()),
                             "safe": stays(book(), other())}),
    (judge_settled, lambda: {"book": book(), "family": Family(3, []), "goal": other(), "led": Family(3, []),
                             "safe": stays(book(), other())}),
    (Crowd, lambda: {"book": book(), "counts": [1, 2, 3]}),
    (lambda: LIVE.counts, dict),
    (lambda: LIVE.run, dict),
    (lambda: LIVE.able(), dict),
    (lambda: LIVE["b"], dict),
    (lambda: len(LIVE), dict),
    (LIVE.lies_in, lambda: {"family": family()}),
    (LIVE.lies_in, lambda: {"family": ~family()}),
    (lambda kind, seen, new: live()(kind, seen, new), lambda: {"kind": "a", "seen": "b", "new": "b"}),
    (lambda kind, many: live().admit(kind, many), lambda: {"kind": "a", "many": 3}),
    (lambda: live().undo(), dict),
    (show_family, lambda: {"family": family()}),
    (show_book, lambda: {"book": book()}),
    (read_family, lambda: {"text": "2; 0..2 1..; 0.. 1..4"}),
    (read_book, lambda: {"text": "a b c; a sees b: c; c sees b: b"}),
]

# The same for calls that raise errors.
WRONG = [
    (Family, lambda: {"kinds": 3, "boxes": copy.deepcopy(BOXES) + [[(2, 1), (0, 0), (0, 0)]]}),
    (FAMILY.has, lambda: {"crowd": [1, 2, -1]}),
    (FAMILY.within, lambda: {"other": Family(2, [])}),
    (lambda: FAMILY & Family(2, []), dict),
    (lambda: FAMILY | Family(2, []), dict),
    (lambda: FAMILY - Family(2, []), dict),
    (Book, lambda: {"kinds": ["a", "b", "a"], "rules": list(RULES)}),
    (Book, lambda: {"kinds": ["a", "b", "C"], "rules": list(RULES)}),
    (Book, lambda: {"kinds": list(KINDS), "rules": RULES + RULES}),
    (Book, lambda: {"kinds": list(KINDS), "rules": RULES + [("a", "b", "a")]}),
    (BOOK.without, lambda: {"rule": ("a", "a", "c")}),
    (can_do, lambda: {"book": book(), "crowd": [1, 2]}),
    (done, lambda: {"book": book(), "crowd": [1, -2, 3], "rule": ("a", "b", "c")}),
    (done, lambda: {"book": book(), "crowd": [1, 0, 3], "rule": ("a", "b", "c")}),
    (done, lambda: {"book": book(), "crowd": [1, 0, 3], "rule": ("a", "c", "b")}),
    (follow, lambda: {"book": book(), "crowd": [1, 2, 3, 4], "run": [("a", "b", "c")]}),
    (follow, lambda: {"book": book(), "crowd": [1, 2, 3], "run": [("a", "b", "c"), ("a", "b", "c")]}),
    (follows, lambda: {"book": book(), "rule": ("a", "x", "b")}),
    (first_unlike, lambda: {"one": book(), "other": Book(["a", "b"], [])}),
    (led_to, lambda: {"book": book(), "family": Family(2, [])}),
    (leads_into, lambda: {"book": book(), "family": Family(2, [])}),
    (one_look, lambda: {"book": book(), "family": Family(2, [])}),
    (is_closed, lambda: {"book": book(), "family": Family(2, [])}),
    (stays, lambda: {"book": book(), "family": Family(2, [])}),
    (can_become, lambda: {"book": book(), "family": family(), "goal": Family(1, [])}),
    (run_to, lambda: {"book": book(), "crowd": [1, -1, 1], "goal": other()}),
    (run_to, lambda: {"book": book(), "crowd": [1, 1, 1], "goal": Family(1, [])}),
    (witness, lambda: {"book": book(), "family": Family(1, []), "goal": other()}),
    (judge, lambda: {"book": book(), "family": family(), "goal": other(), "paper": Family(2, [])}),
    (settled, lambda: {"book": book(), "goal": Family(2, [])}),
    (settles, lambda: {"book": book(), "family": family(), "goal": Family(2, [])}),
    (unsettled, lambda: {"book": book(), "family": Family(1, []), "goal": Family(2, [])}),
    (judge_settled, lambda: {"book": book(), "family": family(), "goal": other(), "led": family(),
                             "safe": Family(2, [])}),
    (Crowd, lambda: {"book": book(), "counts": [1, 2, -3]}),
    (Crowd, lambda: {"book": book(), "counts": [1, 2]}),
    (LIVE, lambda: {"kind": "b", "seen": "a", "new": "c"}),
    (LIVE, lambda: {"kind": "c", "seen": "b", "new": "b"}),
    (LIVE.admit, lambda: {"kind": "d", "many": 0}),
    (LIVE.admit, lambda: {"kind": "a", "many": 0}),
    (LIVE.lies_in, lambda: {"family": Family(2, [])}),
    (lambda: LIVE["d"], dict),
    (lambda: Crowd(book(), [1, 2, 3]).undo(), dict),
    (read_family, lambda: {"text": "2; 0..2 1..; 0..1 1..4"}),
    (read_book, lambda: {"text": "a b c; a sees b: c; c sees b: c"}),
]


class Values(unittest.TestCase):

    def test_errors_are_errors(self):
        for call, arguments in WRONG:
            with self.assertRaises(CrowdError):
                call(*arguments().values())

    def test_by_position_and_by_name(self):
        for call, arguments in CALLS:
            told = plain(call(*arguments().values()))
            self.assertEqual(plain(call(**arguments())), told)
            turned = dict(reversed(list(arguments().items())))
            self.assertEqual(plain(call(**turned)), told)
        for call, arguments in WRONG:
            told = answer(call, arguments())
            with self.assertRaises(CrowdError) as caught:
                call(**arguments())
            self.assertEqual(caught.exception.value, told)

    def test_has_by_name(self):
        self.assertIs(family().has(crowd=[0, 1, 0]), True)
        self.assertIs(family().has(crowd=[0, 0, 0]), False)

    def test_arguments_stay(self):
        for call, arguments in CALLS + WRONG:
            given = arguments()
            before = plain(given)
            answer(call, given)
            self.assertEqual(plain(given), before)

    def test_told_lists_are_new_and_apart(self):
        for call, arguments in CALLS + WRONG:
            given = arguments()
            found = lists_in(answer(call, given)) + lists_in(given)
            self.assertEqual(len({id(one) for one in found}), len(found))

    def test_arguments_and_answers_changed_afterwards(self):
        for call, arguments in CALLS + WRONG:
            given = arguments()
            first = answer(call, given)
            told = plain(first)
            spoil(given)
            self.assertEqual(plain(first), told)
            spoil(first)
            self.assertEqual(plain(answer(call, arguments())), told)

    def test_answers_of_the_same_objects_changed_afterwards(self):
        for call, arguments in CALLS + WRONG:
            given = arguments()
            told = plain(answer(call, given))
            for _ in range(3):
                first = answer(call, given)
                self.assertEqual(plain(first), told)
                spoil([first])

    def test_a_family_keeps_its_boxes(self):
        boxes = copy.deepcopy(BOXES)
        held = Family(3, boxes)
        told = plain(held)
        boxes[0][0] = (5, 5)
        boxes[1].clear()
        boxes.append([(0, None)] * 3)
        self.assertEqual(plain(held), told)
        held.boxes[0].clear()
        held.boxes.clear()
        held.first().append(3)
        self.assertEqual(plain(held), told)
        self.assertTrue(held == family())

    def test_a_book_keeps_its_kinds_and_rules(self):
        kinds, rules = list(KINDS), list(RULES)
        held = Book(kinds, rules)
        told = plain(held)
        kinds[0], rules[0] = "x", ("x", "x", "y")
        kinds.append("q")
        rules.clear()
        self.assertEqual(plain(held), told)
        held.kinds.clear()
        held.rules.clear()
        held.kinds[0] = "z"
        held.rules[0] = ("z", "a", "b")
        self.assertEqual(plain(held), told)
        self.assertTrue(held == book())
        left = held.without(RULES[0])
        left.rules.clear()
        self.assertEqual(plain(held), told)

    def test_the_lists_of_unlike_kinds_are_apart(self):
        one, unlike = book(), Book(["a", "c", "b"], [])
        for _ in range(2):
            told = answer(first_unlike, {"one": one, "other": unlike})
            self.assertEqual(told, (["a", "b", "c"], ["a", "c", "b"]))
            spoil(told)
        self.assertEqual([one.kinds, unlike.kinds], [["a", "b", "c"], ["a", "c", "b"]])
        same = answer(first_unlike, {"one": Book(["a"], []), "other": Book(["b"], [])})
        self.assertIsNot(same[0], same[1])

    def test_errors_change_nothing(self):
        held, shown = book(), family()
        before = [plain(held), plain(shown)]
        for ask in (lambda: held.without(("a", "a", "c")), lambda: can_do(held, [1]),
                    lambda: done(held, [0, 0, 0], RULES[0]), lambda: follows(held, ("a", "a", "a")),
                    lambda: follow(held, [1, 1, 1], [RULES[0], ("x", "y", "z")]),
                    lambda: first_unlike(held, Book(["a"], [])), lambda: shown.has([1]), lambda: shown & Family(1, []),
                    lambda: shown | Family(1, []), lambda: shown - Family(1, []), lambda: shown.within(Family(1, [])),
                    lambda: led_to(held, Family(1, [])), lambda: judge(held, shown, shown, Family(1, [])),
                    lambda: run_to(held, [-1, 0, 0], shown), lambda: run_to(held, [1, 0, 0], Family(2, []))):
            with self.assertRaises(CrowdError):
                ask()
            self.assertEqual([plain(held), plain(shown)], before)


if __name__ == "__main__":
    unittest.main()
