"""Live crowds against plain numbers, behind each step of drawn rows of steps."""

import random
import unittest

from plain import NAMES, able, after, all_rules, draw_boxes, draw_rules, lies_in

from lookcrowd.crowds import Crowd
from lookcrowd.errors import CrowdError, InvalidCrowd, InvalidName, InvalidRule, NotAble, NothingToUndo, UnlikeKinds
from lookcrowd.families import Family
from lookcrowd.rules import Book

OTHER_NAMES = ["x", "", "A", "aa", "a b", "sees", "abcdefghi", "a:", "~"]
LONG_NAMES = ["sees", "abcdefgh", "zz", "q", "ab", "ba", "aa", "look"]


class Plain:
    """A crowd in plain numbers: the crowds that were, and the rule behind each, None where members joined."""

    def __init__(self, kinds, rules, counts):
        self.kinds, self.rules = kinds, rules
        self.rows = [(list(counts), None)]

    def counts(self):
        return list(self.rows[-1][0])

    def run(self):
        return [rule for _, rule in self.rows if rule is not None]

    def able(self):
        return [rule for rule in self.rules if able(self.kinds, self.counts(), rule)]

    def do(self, rule):
        if rule not in self.rules:
            return (InvalidRule, rule)
        if not able(self.kinds, self.counts(), rule):
            return (NotAble, rule)
        self.rows.append((list(after(self.kinds, self.counts(), rule)), rule))
        return None

    def admit(self, kind, many):
        if kind not in self.kinds:
            return (InvalidName, kind)
        if many < 1:
            return (InvalidCrowd, many)
        counts = self.counts()
        counts[self.kinds.index(kind)] += many
        self.rows.append((counts, None))
        return None

    def undo(self):
        if len(self.rows) == 1:
            return (NothingToUndo, 0)
        self.rows.pop()
        return None


def draw_counts(drawn, kinds, most):
    counts = [0] * len(kinds)
    for _ in range(drawn.randint(0, most)):
        counts[drawn.randrange(len(kinds))] += 1
    return counts


class Drawn(unittest.TestCase):

    def draw(self, drawn):
        many = drawn.choice([1, 2, 2, 3, 3, 3, 4, 8])
        kinds = drawn.sample(drawn.choice([NAMES, LONG_NAMES]), many)
        rules = draw_rules(drawn, kinds, 8)
        order = {rule: at for at, rule in enumerate(all_rules(kinds))}
        return kinds, sorted(rules, key=order.get), Book(kinds, rules)

    def outcome(self, ask, *given):
        """The class and the value of the error that a call raises; None if it returns None."""
        try:
            self.assertIsNone(ask(*given))
        except CrowdError as error:
            return (type(error), error.value)
        return None

    def draw_rule(self, drawn, plain):
        """A rule: one that can be done, any of the book, any of its kinds, or one of other names."""
        chance = drawn.random()
        if chance < 0.6 and plain.able():
            return drawn.choice(plain.able())
        if chance < 0.75 and plain.rules:
            return drawn.choice(plain.rules)
        if chance < 0.9:
            return tuple(drawn.choice(plain.kinds) for _ in range(3))
        return tuple(drawn.choice(plain.kinds + OTHER_NAMES) for _ in range(3))

    def step(self, drawn, plain, crowd):
        """Do the same with both: a rule, an undo, or members that join."""
        chance = drawn.random()
        if chance < 0.55:
            rule = self.draw_rule(drawn, plain)
            return plain.do(rule), self.outcome(crowd, *rule)
        if chance < 0.75:
            return plain.undo(), self.outcome(crowd.undo)
        kind = drawn.choice(plain.kinds if drawn.random() < 0.8 else OTHER_NAMES)
        left = 30 - sum(plain.counts())
        many = drawn.choice([0, -1, -7] + [min(left, 1), min(left, 2), min(left, 3)] * 2)
        if many == 1 and drawn.random() < 0.5:
            return plain.admit(kind, 1), self.outcome(crowd.admit, kind)
        return plain.admit(kind, many), self.outcome(crowd.admit, kind, many)

    def check(self, plain, crowd):
        counts = plain.counts()
        self.assertEqual([crowd.counts, crowd.run, crowd.able(), len(crowd)],
                         [counts, plain.run(), plain.able(), sum(counts)])
        self.assertEqual([crowd[kind] for kind in plain.kinds], counts)

    def check_lies_in(self, drawn, plain, crowd, top):
        boxes = draw_boxes(drawn, len(plain.kinds), drawn.randint(0, 3), top)
        if drawn.random() < 0.5:
            boxes = boxes + [[(max(0, many - drawn.randint(0, 1)), drawn.choice([None, many, many + 2]))
                              for many in plain.counts()]]
        self.assertIs(crowd.lies_in(Family(len(plain.kinds), boxes)), lies_in(boxes, plain.counts()))
        kinds = drawn.choice([many for many in range(1, 5) if many != len(plain.kinds)])
        self.assertEqual(self.outcome(crowd.lies_in, Family(kinds, [[(0, None)] * kinds])),
                         (UnlikeKinds, (len(plain.kinds), kinds)))

    def check_unknown_kind(self, drawn, plain, crowd):
        kind = drawn.choice([name for name in OTHER_NAMES + NAMES if name not in plain.kinds])
        with self.assertRaises(InvalidName) as caught:
            crowd[kind]
        self.assertEqual(caught.exception.value, kind)

    def test_rows_of_steps(self):
        drawn = random.Random(121)
        met = {}
        for case in range(600):
            kinds, rules, book = self.draw(drawn)
            counts = draw_counts(drawn, kinds, drawn.choice([3, 8, 30]))
            plain, crowd = Plain(kinds, rules, counts), Crowd(book, counts)
            self.check(plain, crowd)
            for _ in range(drawn.choice([5, 20, 40])):
                wanted, told = self.step(drawn, plain, crowd)
                self.assertEqual(told, wanted)
                key = None if wanted is None else wanted[0]
                met[key] = met.get(key, 0) + 1
                self.check(plain, crowd)
                if len(kinds) < 4 and drawn.random() < 0.3:
                    self.check_lies_in(drawn, plain, crowd, drawn.choice([3, 20]))
                    self.check_unknown_kind(drawn, plain, crowd)
                    self.check(plain, crowd)
        for error in (None, InvalidRule, NotAble, InvalidName, InvalidCrowd, NothingToUndo):
            self.assertGreater(met.get(error, 0), 300, met)

    def test_to_the_beginning_and_on(self):
        drawn = random.Random(122)
        for case in range(300):
            kinds, rules, book = self.draw(drawn)
            counts = draw_counts(drawn, kinds, 10)
            plain, crowd = Plain(kinds, rules, counts), Crowd(book, counts)
            for _ in range(2):
                for _ in range(15):
                    wanted, told = self.step(drawn, plain, crowd)
                    self.assertEqual(told, wanted)
                while plain.undo() is None:
                    self.assertIsNone(crowd.undo())
                    self.check(plain, crowd)
                for _ in range(2):
                    self.assertEqual(self.outcome(crowd.undo), (NothingToUndo, 0))
                self.assertEqual([crowd.counts, crowd.run], [counts, []])

    def test_long_rows(self):
        """Rows of up to ninety rules in crowds of thirty members, and as many undos."""
        drawn = random.Random(123)
        longest = 0
        for case in range(60):
            kinds, rules, book = self.draw(drawn)
            counts = draw_counts(drawn, kinds, 0)
            for _ in range(30):
                counts[drawn.randrange(len(kinds))] += 1
            plain, crowd = Plain(kinds, rules, counts), Crowd(book, counts)
            length = 0
            while length < 90 and plain.able():
                rule = drawn.choice(plain.able())
                self.assertEqual([plain.do(rule), crowd(*rule)], [None, None])
                self.assertEqual([crowd.counts, crowd.run], [plain.counts(), plain.run()])
                length += 1
            longest = max(longest, length)
            for _ in range(length):
                self.assertEqual([plain.undo(), crowd.undo()], [None, None])
                self.assertEqual([crowd.counts, crowd.run], [plain.counts(), plain.run()])
            self.assertEqual(self.outcome(crowd.undo), (NothingToUndo, 0))
            self.assertEqual([crowd.counts, crowd.run, len(crowd)], [counts, [], 30])
        self.assertEqual(longest, 90)

    def test_crowds_side_by_side(self):
        """Crowds that share one book, or have equal or other ones, in steps in turns: each is as if alone."""
        drawn = random.Random(124)
        equal = 0
        for case in range(300):
            kinds, rules, book = self.draw(drawn)
            others = [rule for rule in all_rules(kinds) if rule not in rules]
            again = Book(list(kinds), rules[::-1])
            if others:
                again = Book(kinds, rules + others[:1]).without(others[0])
            less = book.without(drawn.choice(rules)) if rules else book
            books = [(rules, book), (rules, book), (rules, again), (less.rules, less)]
            counts = draw_counts(drawn, kinds, drawn.choice([2, 5, 12]))
            pairs = [(Plain(kinds, held, counts), Crowd(shared, counts)) for held, shared in books]
            for _ in range(25):
                plain, crowd = drawn.choice(pairs)
                wanted, told = self.step(drawn, plain, crowd)
                self.assertEqual(told, wanted)
                for plain, crowd in pairs:
                    self.check(plain, crowd)
                    for mate, other in pairs:
                        same = plain.rules == mate.rules and plain.counts() == mate.counts()
                        equal += same and crowd is not other and plain.rows != mate.rows
                        self.assertIs(crowd == other, same)
                        self.assertIs(crowd != other, not same)
        self.assertGreater(equal, 300)

    def test_told_and_given_lists_changed(self):
        drawn = random.Random(125)
        for case in range(200):
            kinds, rules, book = self.draw(drawn)
            counts = draw_counts(drawn, kinds, 9)
            plain, crowd = Plain(kinds, rules, counts), Crowd(book, counts)
            for _ in range(15):
                counts[drawn.randrange(len(kinds))] += 5
                self.step(drawn, plain, crowd)
                for told in (crowd.counts, crowd.run, crowd.able(), book.kinds, book.rules):
                    told.reverse()
                    told.append("spoiled")
                    told.pop(0)
                self.check(plain, crowd)
            self.assertTrue(book == Book(kinds, rules))


if __name__ == "__main__":
    unittest.main()
