"""Promise [6] at drawn families, against the crowds themselves."""

import random
import unittest

from plain import (
    box_key, crowds_below, draw_boxes, greatest_boxes, greatest_number, least_bound, lies_in, lies_whole)

from lookcrowd.families import Family

# The greatest number in boxes for which all boxes are tried, by the number of kinds.
SMALL = {1: 8, 2: 4, 3: 2}


def inside_of(family, crowds):
    return {crowd for crowd in crowds if family.has(list(crowd))}


def first_of(inside):
    return min(([sum(crowd), list(crowd)] for crowd in inside), default=[0, None])[1]


def in_other_kinds(boxes, order):
    return [[box[kind] for kind in order] for box in boxes]


def layers_beside(spans, last):
    """The layers by which spans could be made wider by one number."""
    for kind, (low, high) in enumerate(spans):
        for edge in (low - 1, high + 1):
            if 0 <= edge <= last:
                yield spans[:kind] + [(edge, edge)] + spans[kind + 1:]


def draw_tree(drawn, leaves, depth):
    """A drawn question of signs in signs, as a function of leaves."""
    if depth == 0 or drawn.random() < 0.15:
        leaf = drawn.choice(leaves)
        return lambda given: given[leaf]
    sign = drawn.choice("&|-~")
    one, other = draw_tree(drawn, leaves, depth - 1), draw_tree(drawn, leaves, depth - 1)
    if sign == "&":
        return lambda given: one(given) & other(given)
    if sign == "|":
        return lambda given: one(given) | other(given)
    if sign == "-":
        return lambda given: one(given) - other(given)
    return lambda given: ~one(given)


class Within:
    """A set of crowds with the signs of families, as a plain counterpart."""

    def __init__(self, inside, crowds):
        self.inside, self.crowds = inside, crowds

    def __and__(self, other):
        return Within(self.inside & other.inside, self.crowds)

    def __or__(self, other):
        return Within(self.inside | other.inside, self.crowds)

    def __sub__(self, other):
        return Within(self.inside - other.inside, self.crowds)

    def __invert__(self):
        return Within(set(self.crowds) - self.inside, self.crowds)


class Drawn(unittest.TestCase):

    def check_boxes(self, family, inside, last):
        """The boxes told are greatest ones, in order, each once, and have all crowds together."""
        boxes = family.boxes
        keys = [box_key(box) for box in boxes]
        self.assertTrue(all(one < other for one, other in zip(keys, keys[1:])), boxes)
        self.assertEqual({crowd for crowd in crowds_below(family.kinds, last + 1) if lies_in(boxes, crowd)}, inside)
        for box in boxes:
            spans = [(least, last if most is None else most) for least, most in box]
            for layer in layers_beside(spans, last):
                self.assertFalse(lies_whole(layer, inside), (boxes, layer))

    def check_family(self, family, inside, last):
        """A family with numbers below the last one, against its crowds with numbers up to the last one."""
        crowds = crowds_below(family.kinds, last + 1)
        self.assertEqual(inside_of(family, crowds), inside)
        self.assertEqual(family.first(), first_of(inside))
        self.assertEqual(len(family), len(family.boxes))
        self.assertEqual(family.boxes, greatest_boxes(family.kinds, inside, last))
        self.assertEqual(family.bound(), least_bound(family.kinds, inside, last))

    def test_small_families_whole(self):
        drawn = random.Random(61)
        for case in range(1500):
            kinds = drawn.choice([1, 2, 2, 3])
            boxes = draw_boxes(drawn, kinds, drawn.randint(0, 6), SMALL[kinds])
            last = greatest_number(boxes) + 1
            inside = {crowd for crowd in crowds_below(kinds, last + 1) if lies_in(boxes, crowd)}
            self.check_family(Family(kinds, boxes), inside, last)

    def test_greater_families(self):
        drawn = random.Random(62)
        for case in range(180):
            kinds = drawn.choice([1, 2, 2, 3]) if case else 3
            boxes = draw_boxes(drawn, kinds, drawn.randint(1, 6), 20 if case % 3 else 6)
            last = greatest_number(boxes) + 1
            crowds = crowds_below(kinds, last + 1)
            inside = {crowd for crowd in crowds if lies_in(boxes, crowd)}
            family = Family(kinds, boxes)
            self.assertEqual(inside_of(family, crowds), inside)
            self.assertEqual(family.first(), first_of(inside))
            self.check_boxes(family, inside, last)
            self.check_grown(drawn, family, inside, last)
            self.assertEqual(inside_of(~family, crowds), set(crowds) - inside)
            self.assertTrue(~~family == family)

    def check_grown(self, drawn, family, inside, last):
        """Boxes grown from crowds, in drawn directions, until nothing more goes: all of them are told."""
        members = sorted(inside)
        for _ in range(6 if members else 0):
            spans = [(many, many) for many in drawn.choice(members)]
            ends = [(kind, by) for kind in range(family.kinds) for by in (-1, 1)]
            drawn.shuffle(ends)
            for kind, by in ends:
                spans = self.grown(spans, kind, by, inside, last)
            box = [(low, None if high == last else high) for low, high in spans]
            self.assertIn(box, family.boxes)

    def grown(self, spans, kind, by, inside, last):
        while True:
            low, high = spans[kind]
            edge = low - 1 if by < 0 else high + 1
            if not 0 <= edge <= last or not lies_whole(spans[:kind] + [(edge, edge)] + spans[kind + 1:], inside):
                return spans
            spans = spans[:kind] + [(min(low, edge), max(high, edge))] + spans[kind + 1:]

    def test_signs_in_signs(self):
        drawn = random.Random(63)
        for case in range(900):
            kinds = drawn.choice([1, 2, 2, 3])
            parts = [draw_boxes(drawn, kinds, drawn.randint(0, 3), SMALL[kinds]) for _ in range(3)]
            last = max(greatest_number(boxes) for boxes in parts) + 1
            crowds = crowds_below(kinds, last + 1)
            families = [Family(kinds, boxes) for boxes in parts]
            plain = [Within({crowd for crowd in crowds if lies_in(boxes, crowd)}, crowds) for boxes in parts]
            tree = draw_tree(drawn, [0, 1, 2], drawn.randint(1, 4))
            self.check_family(tree(families), tree(plain).inside, last)

    def test_signs_of_greater_families(self):
        drawn = random.Random(64)
        for case in range(60):
            kinds = drawn.choice([1, 2, 3])
            parts = [draw_boxes(drawn, kinds, drawn.randint(1, 6), 20 if kinds < 3 else 9) for _ in range(2)]
            last = max(greatest_number(boxes) for boxes in parts) + 1
            crowds = crowds_below(kinds, last + 1)
            one, other = [Family(kinds, boxes) for boxes in parts]
            first, second = [{crowd for crowd in crowds if lies_in(boxes, crowd)} for boxes in parts]
            for family, inside in ((one & other, first & second), (one | other, first | second),
                                   (one - other, first - second), (~(one - other), set(crowds) - (first - second))):
                self.assertEqual(inside_of(family, crowds), inside)
                self.check_boxes(family, inside, last)

    def test_comparing(self):
        drawn = random.Random(65)
        met = {True: 0, False: 0}
        for case in range(2500):
            kinds = drawn.choice([1, 2, 3])
            boxes = draw_boxes(drawn, kinds, drawn.randint(0, 3), 2)
            others = draw_boxes(drawn, kinds, drawn.randint(0, 3), 2)
            if drawn.random() < 0.4:
                others = boxes + others[:1]
            one, other = Family(kinds, boxes), Family(kinds, others)
            crowds = crowds_below(kinds, 4)
            first = {crowd for crowd in crowds if lies_in(boxes, crowd)}
            second = {crowd for crowd in crowds if lies_in(others, crowd)}
            met[first == second] += 1
            self.assertIs(one == other, first == second)
            self.assertIs(one != other, first != second)
            self.assertIs(one.within(other), first <= second)
            self.assertIs(other.within(one), second <= first)
        self.assertGreater(min(met.values()), 200)

    def test_told_boxes_make_the_family_anew(self):
        drawn = random.Random(66)
        for case in range(700):
            kinds = drawn.choice([1, 2, 3])
            family = Family(kinds, draw_boxes(drawn, kinds, drawn.randint(0, 6), drawn.choice([2, 20])))
            if case % 2:
                family = ~family
            told = family.boxes
            self.assertTrue(Family(kinds, told) == family)
            drawn.shuffle(told)
            self.assertEqual(Family(kinds, told).boxes, family.boxes)
            self.assertEqual(Family(kinds, told + told).boxes, family.boxes)
            cut = drawn.randint(0, len(told))
            self.assertTrue(Family(kinds, told[:cut]) | Family(kinds, told[cut:]) == family)
            self.assertTrue(Family(kinds, told[:cut]).within(family))
            self.check_parts(Family(kinds, told[:cut]), told[:cut], drawn)

    def check_parts(self, part, boxes, drawn):
        """A family of some told boxes, asked of crowds at and beside their edges."""
        edges = [[0] + [number + by for box in boxes for number in box[kind] if number is not None
                        for by in (-1, 0, 1) if number + by >= 0] for kind in range(part.kinds)]
        for _ in range(60):
            crowd = [drawn.choice(numbers) for numbers in edges]
            self.assertIs(part.has(crowd), lies_in(boxes, crowd))

    def test_kinds_in_another_order(self):
        drawn = random.Random(67)
        for case in range(500):
            kinds = drawn.choice([2, 3])
            boxes = draw_boxes(drawn, kinds, drawn.randint(0, 6), drawn.choice([3, 20]))
            order = drawn.sample(range(kinds), kinds)
            family, turned = Family(kinds, boxes), Family(kinds, in_other_kinds(boxes, order))
            self.assertEqual(turned.boxes, sorted(in_other_kinds(family.boxes, order), key=box_key))
            self.assertEqual((~turned).boxes, sorted(in_other_kinds((~family).boxes, order), key=box_key))
            self.assertEqual(turned.bound(), family.bound())
            self.assertTrue(Family(kinds, in_other_kinds(family.boxes, order)) == turned)

    def test_great_numbers(self):
        drawn = random.Random(68)
        for case in range(500):
            kinds, great = drawn.choice([1, 2, 3]), drawn.choice([10 ** 6, 10 ** 25, 7 ** 41])
            boxes = draw_boxes(drawn, kinds, drawn.randint(0, 6), 6)
            others = draw_boxes(drawn, kinds, drawn.randint(0, 6), 6)
            one, other = Family(kinds, boxes), Family(kinds, others)
            far, farther = [Family(kinds, self.stretched(raw, great)) for raw in (boxes, others)]
            for near, wide in ((one, far), (one & other, far & farther), (one | other, far | farther),
                               (one - other, far - farther), (~one, ~far)):
                self.assertEqual(wide.boxes, self.stretched(near.boxes, great))
                first = near.first()
                self.assertEqual(wide.first(), first and [many * great for many in first])
                self.assertEqual(wide.bound(), near.bound() * great)
            self.assertIs(far.within(farther), one.within(other))
            crowd = [drawn.randint(0, 8) for _ in range(kinds)]
            spread = [many * great + drawn.choice([0, 1, great - 1]) for many in crowd]
            self.assertIs(far.has(spread), one.has(crowd))

    def stretched(self, boxes, great):
        """The boxes with so many numbers for each number."""
        return [[(least * great, None if most is None else most * great + great - 1) for least, most in box]
                for box in boxes]


if __name__ == "__main__":
    unittest.main()
