"""Plain, slow answers straight from the words of the document, and inputs to ask them of.

Nothing here uses the program. A family is a list of boxes, a book its kinds and rules, a crowd a
tuple of numbers.
"""

from itertools import product

NAMES = ["a", "b", "c", "d", "e", "f", "g", "h"]


def crowds_of(kinds, members):
    """All crowds of so many members, in the order of lists."""
    if kinds == 1:
        return [(members,)]
    return [(one,) + rest for one in range(members + 1) for rest in crowds_of(kinds - 1, members - one)]


def crowds_up_to(kinds, members):
    """All crowds of at most so many members, in the order of [8]."""
    return [crowd for many in range(members + 1) for crowd in crowds_of(kinds, many)]


def crowds_below(kinds, end):
    """All crowds with less than so many members of each kind."""
    return list(product(range(end), repeat=kinds))


def lies_in_box(box, crowd):
    return all(least <= many and (most is None or many <= most) for (least, most), many in zip(box, crowd))


def lies_in(boxes, crowd):
    return any(lies_in_box(box, crowd) for box in boxes)


def greatest_number(boxes):
    """The greatest number that stands in some boxes."""
    return max([number for box in boxes for pair in box for number in pair if number is not None], default=0)


def box_key(box):
    """What boxes are ordered by."""
    return [(least, float("inf") if most is None else most) for least, most in box]


def lies_whole(spans, inside):
    return all(crowd in inside for crowd in product(*[range(low, high + 1) for low, high in spans]))


def wider(spans, last):
    """All spans that are wider by one number at one end."""
    for at, (low, high) in enumerate(spans):
        if low > 0:
            yield spans[:at] + ((low - 1, high),) + spans[at + 1:]
        if high < last:
            yield spans[:at] + ((low, high + 1),) + spans[at + 1:]


def greatest_boxes(kinds, inside, last):
    """The greatest boxes of a set of crowds with numbers to the last one, which stands for all from it on."""
    ends = [(low, high) for low in range(last + 1) for high in range(low, last + 1)]
    whole = {spans for spans in product(ends, repeat=kinds) if lies_whole(spans, inside)}
    greatest = [spans for spans in whole if not any(wide in whole for wide in wider(spans, last))]
    boxes = [[(low, None if high == last else high) for low, high in spans] for spans in greatest]
    return sorted(boxes, key=box_key)


def least_bound(kinds, inside, last):
    """The least number beyond which numbers make no difference, by trying all."""
    for bound in range(last + 1):
        if all((crowd in inside) == (tuple(min(many, bound) for many in crowd) in inside)
               for crowd in crowds_below(kinds, last + 1)):
            return bound
    raise AssertionError("the last number is no bound")


def all_rules(kinds):
    """All rules over some kinds, in the order of a book."""
    return [(kind, seen, new) for kind in kinds for seen in kinds for new in kinds if new != kind]


def able(kinds, crowd, rule):
    left = list(crowd)
    left[kinds.index(rule[0])] -= 1
    return min(left) >= 0 and left[kinds.index(rule[1])] >= 1


def after(kinds, crowd, rule):
    changed = list(crowd)
    changed[kinds.index(rule[0])] -= 1
    changed[kinds.index(rule[2])] += 1
    return tuple(changed)


def behind(kinds, rules, crowd):
    """The crowds behind one rule."""
    return {after(kinds, crowd, rule) for rule in rules if able(kinds, crowd, rule)}


def reached(kinds, rules, crowd):
    """All crowds to which a crowd leads, each with the least length of a run to it."""
    lengths, latest = {tuple(crowd): 0}, [tuple(crowd)]
    while latest:
        found = []
        for now in latest:
            for new in behind(kinds, rules, now):
                if new not in lengths:
                    lengths[new] = lengths[now] + 1
                    found.append(new)
        latest = found
    return lengths


def run_ends(kinds, crowd, run, rules):
    """The crowd to which a run leads; None if it is no run of the rules."""
    now = tuple(crowd)
    for rule in run:
        if rule not in rules or not able(kinds, now, rule):
            return None
        now = after(kinds, now, rule)
    return now


def draw_pair(drawn, top):
    least = drawn.choice([0, 0, drawn.randint(0, top)])
    return (least, drawn.choice([None, least, drawn.randint(least, top)]))


def draw_box(drawn, kinds, top):
    return [draw_pair(drawn, top) for _ in range(kinds)]


def draw_near(drawn, box, top):
    """A box that touches another one, overlaps it, lies in it or around it, or is the same."""
    near = list(box)
    at = drawn.randrange(len(box))
    least, most = box[at]
    end = top if most is None else most
    choices = [(least, most), (least, end), (least, None), (0, most), (end, most)]
    if least > 0:
        choices += [(0, least - 1), (least - 1, least), (least - 1, most)]
    if most is not None and most < top:
        choices += [(most + 1, None), (most + 1, top), (most, most + 1)]
    near[at] = drawn.choice(choices)
    return near


def draw_boxes(drawn, kinds, many, top):
    """Boxes that are likely to have to do with one another."""
    boxes = []
    for _ in range(many):
        if boxes and drawn.random() < 0.5:
            boxes.append(draw_near(drawn, drawn.choice(boxes), top))
        else:
            boxes.append(draw_box(drawn, kinds, top))
    return boxes


def draw_rules(drawn, kinds, most):
    rules = all_rules(kinds)
    return drawn.sample(rules, min(len(rules), drawn.randint(0, most)))


# How many members the crowds have that are asked of, by the number of kinds.
MEMBERS = {1: 9, 2: 9, 3: 7}
# The bounds of [2] for families of ways and settling: the greatest number in a box, by the number of kinds.
TOP = {1: 2, 2: 2, 3: 1}


class Steps:
    """All crowds of up to some members, with what each one leads to, and where crowds come from."""

    def __init__(self, kinds, rules):
        self.kinds, self.rules = kinds, rules
        self.crowds = crowds_up_to(len(kinds), MEMBERS[len(kinds)])
        self.next = {crowd: behind(kinds, rules, crowd) for crowd in self.crowds}
        self.ends = {crowd: self.all_from(crowd) for crowd in self.crowds}

    def all_from(self, crowd):
        seen, left = {crowd}, [crowd]
        while left:
            for new in self.next[left.pop()]:
                if new not in seen:
                    seen.add(new)
                    left.append(new)
        return seen

    def inside(self, boxes):
        return {crowd for crowd in self.crowds if lies_in(boxes, crowd)}

    def led_to(self, inside):
        return {end for crowd in inside for end in self.ends[crowd]}

    def leads_into(self, inside):
        return {crowd for crowd in self.crowds if self.ends[crowd] & inside}

    def one_look(self, inside):
        return {end for crowd in inside for end in self.next[crowd]}

    def stays(self, inside):
        return {crowd for crowd in inside if self.ends[crowd] <= inside}

    def rests(self):
        return {crowd for crowd in self.crowds if not self.next[crowd]}

    def settled(self, inside):
        """All crowds that settle, by [9]."""
        kept = self.stays(inside)
        return {crowd for crowd in self.crowds if all(self.ends[end] & kept for end in self.ends[crowd])}

    def settled_by_runs(self, inside):
        """All crowds that settle, by [7].

        What comes about again and again in a fair run leads to nothing else than what does so, too: such
        crowds lead to one another and to no other ones. And of any such crowds there is a fair run to them.
        """
        lasting = {crowd for crowd in self.crowds if all(crowd in self.ends[end] for end in self.ends[crowd])}
        return {crowd for crowd in self.crowds if self.ends[crowd] & lasting <= inside}


def is_closed_plainly(kinds, rules, boxes):
    """True if no rule leads out: numbers beyond those in the boxes by two make no difference any more."""
    end = greatest_number(boxes) + 4
    return all(lies_in(boxes, new) for crowd in crowds_below(len(kinds), end) if lies_in(boxes, crowd)
               for new in behind(kinds, rules, crowd))


def lies_within_plainly(kinds, boxes, others):
    end = max(greatest_number(boxes), greatest_number(others)) + 2
    return all(lies_in(others, crowd) for crowd in crowds_below(kinds, end) if lies_in(boxes, crowd))


def draw_family(drawn, kinds):
    """The boxes of a family within the bounds, now and then of no crowd or of all crowds."""
    if drawn.random() < 0.05:
        return drawn.choice([[], [[(0, None)] * kinds]])
    return draw_boxes(drawn, kinds, drawn.choice([0, 1, 1, 2, 2, 2, 2]), TOP[kinds])


def draw_kinds_and_rules(drawn):
    """Up to three kinds, and up to five rules over them."""
    kinds = drawn.sample(NAMES, drawn.choice([1, 2, 2, 3, 3, 3, 3]))
    return kinds, draw_rules(drawn, kinds, 5)
