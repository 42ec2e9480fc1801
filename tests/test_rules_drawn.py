"""Promises [4], [5] and [9] at drawn books, going step by step through all crowds that small crowds lead to."""

import random
import unittest
from itertools import combinations

from plain import NAMES, able, after, all_rules, behind, crowds_of, crowds_up_to, draw_rules, reached

from lookcrowd.errors import NotAble
from lookcrowd.rules import Book, can_do, done, first_unlike, follow, follows, least_rules, needless


class Reach:
    """What crowds lead to by sets of rules, each worked out once."""

    def __init__(self, kinds):
        self.kinds, self.known = kinds, {}

    def of(self, rules, crowd):
        key = (tuple(sorted(rules)), crowd)
        if key not in self.known:
            self.known[key] = set(reached(self.kinds, rules, crowd))
        return self.known[key]

    def follows(self, rules, rule, members):
        return all(after(self.kinds, crowd, rule) in self.of(rules, crowd)
                   for many in range(members + 1) for crowd in crowds_of(len(self.kinds), many)
                   if able(self.kinds, crowd, rule))

    def least_rules(self, rules, members):
        """All least sets of rules, tried in their order."""
        found = []
        for many in range(len(rules) + 1):
            for chosen in combinations(range(len(rules)), many):
                kept = [rules[at] for at in chosen]
                if not any(set(least) <= set(chosen) for least in found):
                    if all(self.follows(kept, rule, members) for rule in rules):
                        found.append(chosen)
        return [[rules[at] for at in chosen] for chosen in found]

    def first_unlike(self, one, other, members):
        for crowd in crowds_up_to(len(self.kinds), members):
            if self.of(one, crowd) != self.of(other, crowd):
                return list(crowd)
        return None


def draw_dense(drawn, kinds, most):
    """Rules among few of the kinds, so that some follow from others, and perhaps some other ones."""
    few = all_rules(drawn.sample(kinds, min(len(kinds), drawn.choice([2, 3, 3, 3, 4]))))
    if drawn.random() < 0.5:
        few = [rule for rule in few if rule[0] != rule[1]]
    rules = drawn.sample(few, min(len(few), drawn.randint(0, most)))
    others = [rule for rule in draw_rules(drawn, kinds, 3) if rule not in rules]
    rules = rules + others[:most - len(rules)]
    drawn.shuffle(rules)
    return rules


def members_for(kinds):
    return 4 if kinds <= 3 else 3 if kinds <= 5 else 2


class Drawn(unittest.TestCase):

    def draw_kinds(self, drawn):
        many = drawn.choice([1, 2, 2, 3, 3, 3, 4, 5, 8])
        return drawn.sample(NAMES, many)

    def in_order(self, kinds, rules):
        return [rule for rule in all_rules(kinds) if rule in rules]

    def test_books(self):
        drawn = random.Random(41)
        for case in range(600):
            kinds = self.draw_kinds(drawn)
            rules = draw_rules(drawn, kinds, 8)
            book = Book(kinds, rules)
            self.assertEqual([book.kinds, book.rules, len(book)], [kinds, self.in_order(kinds, rules), len(rules)])
            drawn.shuffle(rules)
            self.assertTrue(Book(kinds, rules) == book)
            for rule in rules:
                left = [other for other in rules if other != rule]
                self.assertEqual(book.without(rule).rules, self.in_order(kinds, left))
                self.assertTrue(book.without(rule) == Book(kinds, left))
                self.assertTrue(book.without(rule) != book)

    def test_single_rules(self):
        drawn = random.Random(42)
        for case in range(500):
            kinds = self.draw_kinds(drawn)
            rules = draw_rules(drawn, kinds, 8)
            book = Book(kinds, rules)
            for crowd in drawn.sample(crowds_up_to(len(kinds), members_for(len(kinds))), 2):
                can = [rule for rule in self.in_order(kinds, rules) if able(kinds, crowd, rule)]
                self.assertEqual(can_do(book, list(crowd)), can)
                for rule in rules:
                    if rule in can:
                        self.assertEqual(done(book, list(crowd), rule), list(after(kinds, crowd, rule)))
                    else:
                        with self.assertRaises(NotAble) as caught:
                            done(book, list(crowd), rule)
                        self.assertEqual(caught.exception.value, rule)

    def test_runs(self):
        drawn = random.Random(43)
        for case in range(500):
            kinds = self.draw_kinds(drawn)
            rules = draw_rules(drawn, kinds, 8)
            book = Book(kinds, rules)
            crowd = now = tuple(drawn.randint(0, 30 // len(kinds)) for _ in kinds)
            run = []
            for _ in range(drawn.randint(0, 40)):
                can = [rule for rule in rules if able(kinds, now, rule)]
                if can:
                    run.append(drawn.choice(can))
                    now = after(kinds, now, run[-1])
            self.assertEqual(follow(book, list(crowd), run), list(now))
            wrong = [rule for rule in all_rules(kinds) if rule not in rules or not able(kinds, now, rule)]
            if wrong:
                with self.assertRaises(NotAble) as caught:
                    follow(book, list(crowd), run + [drawn.choice(wrong)] + run)
                self.assertEqual(caught.exception.value, len(run))

    def test_follows(self):
        drawn = random.Random(44)
        met = {True: 0, False: 0}
        for case in range(700):
            kinds = self.draw_kinds(drawn)
            rules = draw_dense(drawn, kinds, 8)
            book, reach = Book(kinds, rules), Reach(kinds)
            members = members_for(len(kinds))
            asked = all_rules(kinds)
            for rule in drawn.sample(asked, min(len(asked), 8)):
                told = reach.follows(rules, rule, members)
                met[told and rule not in rules] += 1
                self.assertIs(follows(book, rule), told, (kinds, rules, rule))
            needed = [rule for rule in self.in_order(kinds, rules)
                      if reach.follows([other for other in rules if other != rule], rule, members)]
            self.assertEqual(needless(book), needed)
        self.assertGreater(min(met.values()), 100)

    def test_least_rules(self):
        drawn = random.Random(45)
        several = 0
        for case in range(500):
            kinds = self.draw_kinds(drawn)
            rules = self.in_order(kinds, draw_dense(drawn, kinds, 8))
            told = least_rules(Book(kinds, rules))
            self.assertEqual(told, Reach(kinds).least_rules(rules, min(3, members_for(len(kinds)))), (kinds, rules))
            several += len(told) > 1
        self.assertGreater(several, 10)

    def test_first_unlike(self):
        drawn = random.Random(46)
        alike = 0
        for case in range(700):
            kinds = self.draw_kinds(drawn)
            rules = draw_dense(drawn, kinds, 8)
            one = Book(kinds, rules)
            others = draw_dense(drawn, kinds, 8)
            if case % 3 == 0:
                others = drawn.choice(least_rules(one))
            elif case % 3 == 1 and rules:
                others = rules[1:] + others[:1] if others and others[0] not in rules else rules[1:]
            other = Book(kinds, others)
            told = Reach(kinds).first_unlike(rules, others, members_for(len(kinds)))
            alike += told is None and rules != others
            self.assertEqual(first_unlike(one, other), told)
            self.assertEqual(first_unlike(other, one), told)
        self.assertGreater(alike, 50)

    def test_rules_that_see_their_own_kind(self):
        drawn = random.Random(47)
        for case in range(300):
            kinds = drawn.sample(NAMES, drawn.choice([2, 3]))
            rules = [rule for rule in all_rules(kinds) if rule[0] == rule[1] and drawn.random() < 0.7]
            book = Book(kinds, rules)
            for crowd in crowds_up_to(len(kinds), 3):
                seen = {tuple(done(book, list(crowd), rule)) for rule in can_do(book, list(crowd))}
                self.assertEqual(seen, behind(kinds, rules, crowd))


if __name__ == "__main__":
    unittest.main()
