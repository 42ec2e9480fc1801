"""Into what crowds settle if everybody goes on looking, and what shows that it is so."""

from lookcrowd.boxsteps import able_parts
from lookcrowd.families import Family
from lookcrowd.ways import check_kinds, is_closed, leads_into, run_to, stays


def settled(book, goal):
    """The family of all crowds that settle in a goal."""
    return stays(book, may_settle(book, goal))


def may_settle(book, goal):
    """The family of all crowds that lead to one from which only crowds of a goal come about."""
    return leads_into(book, stays(book, goal))


def settles(book, family, goal):
    """True if all crowds of a family settle in a goal."""
    check_kinds(book, [family, goal])
    return family.within(settled(book, goal))


def unsettled(book, family, goal):
    """The first crowd of a family that does not settle in a goal, and a run of least length to one that cannot settle.

    None if all crowds of the family settle.
    """
    check_kinds(book, [family, goal])
    crowd = (family - settled(book, goal)).first()
    if crowd is None:
        return None
    return (crowd, run_to(book, crowd, ~may_settle(book, goal)))


def rests(book):
    """The family of all crowds in which no rule can be done."""
    kinds = len(book.kinds)
    everywhere = [(0, None)] * kinds
    able = [part for part, _ in able_parts([everywhere], book.moves)]
    return ~Family(kinds, able)


def may_rest(book):
    """The family of all crowds that lead to one in which no rule can be done."""
    return leads_into(book, rests(book))


def surely_rests(book):
    """The family of all crowds of which each fair run comes to one in which no rule can be done."""
    # Such a crowd does not change any more, so to come to one is to stay among them.
    return settled(book, rests(book))


def judge_settled(book, family, goal, led, safe):
    """True if two papers show that all crowds of a family settle in a goal."""
    check_kinds(book, [family, goal, led, safe])
    if not family.within(led) or not is_closed(book, led):
        return False
    if not safe.within(goal) or not is_closed(book, safe):
        return False
    return led.within(leads_into(book, safe))
