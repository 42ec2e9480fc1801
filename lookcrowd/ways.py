"""What crowds of a family lead to, what leads to them, and what shows that it is so."""

from lookcrowd.boxsteps import many_steps, one_step
from lookcrowd.checks import check_alike, check_crowd
from lookcrowd.families import Family
from lookcrowd.rules import rule_of
from lookcrowd.steps import reach, way_to


def check_kinds(book, families):
    """Raise UnlikeKinds at the first family that has not the book's number of kinds."""
    for family in families:
        check_alike(len(book.kinds), family.kinds)


def led_to(book, family):
    """The family of all crowds to which crowds of a family lead."""
    check_kinds(book, [family])
    return widened(family, book.moves)


def leads_into(book, family):
    """The family of all crowds that lead to crowds of a family."""
    check_kinds(book, [family])
    # What a rule did, the rule with the kind and the new kind exchanged takes back: the seen member is still there.
    return widened(family, [(new, seen, kind) for kind, seen, new in book.moves])


def widened(family, moves):
    """The family of all crowds to which moves lead crowds of a family.

    This comes to its end: many_steps makes the sum of the most numbers that a box has never greater,
    so they can be in finitely many ways only, and least numbers cannot go down forever.
    """
    now, wider = None, family
    while wider != now:
        now = wider
        wider = now | Family(now.kinds, many_steps(now.boxes, moves))
    return now


def one_look(book, family):
    """The family of all crowds to which crowds of a family lead by one rule."""
    check_kinds(book, [family])
    return Family(family.kinds, one_step(family.boxes, book.moves))


def is_closed(book, family):
    """True if no rule, done in a crowd of a family, leads out of it."""
    return one_look(book, family).within(family)


def stays(book, family):
    """The family of all crowds of a family from which only crowds of it come about."""
    return ~leads_into(book, ~family)


def can_become(book, family, goal):
    """True if some crowd of a family leads to one of a goal."""
    check_kinds(book, [family, goal])
    return len(led_to(book, family) & goal) > 0


def run_to(book, crowd, goal):
    """A run of least length from a crowd to one of a goal; None if there is none."""
    kinds = book.kinds
    check_crowd(crowd, len(kinds))
    check_kinds(book, [goal])
    before = reach(crowd, book.moves)
    for reached in before:
        if goal.has(reached):
            return [rule_of(kinds, move) for move in way_to(reached, before)]
    return None


def witness(book, family, goal):
    """The first crowd of a family that leads to one of a goal, and a run of least length; None if there is none."""
    check_kinds(book, [family, goal])
    crowd = (family & leads_into(book, goal)).first()
    if crowd is None:
        return None
    return (crowd, run_to(book, crowd, goal))


def judge(book, family, goal, paper):
    """True if a paper shows that no crowd of a family leads to one of a goal."""
    check_kinds(book, [family, goal, paper])
    return family.within(paper) and len(paper & goal) == 0 and is_closed(book, paper)
