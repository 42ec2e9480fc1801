"""Moves, done in one crowd after the other.

A move is a rule told by the indexes of its kinds: (kind, seen kind, new kind).
"""


def is_able(crowd, move):
    """True if a move can be done in a crowd."""
    kind, seen, _ = move
    # Nobody looks at itself: to see its own kind, a member needs another one of it.
    if kind == seen:
        return crowd[kind] > 1
    return crowd[kind] > 0 and crowd[seen] > 0


def after(crowd, move):
    """The crowd behind a move."""
    kind, _, new = move
    changed = list(crowd)
    changed[kind] -= 1
    changed[new] += 1
    return changed


def nearest(crowd, moves):
    """Each move that can be done in a crowd, behind the crowd, a tuple, to which it leads."""
    return [(tuple(after(crowd, move)), move) for move in moves if is_able(crowd, move)]


def reach(crowd, moves):
    """All crowds to which a crowd leads, the nearest first, as keys of a dict.

    Crowds are tuples here. With each one stand the crowd before it and the move between the two,
    on a way of least length; with the first one None.
    """
    before = {tuple(crowd): None}
    latest = [tuple(crowd)]
    while latest:
        found = []
        for now in latest:
            for new, move in nearest(now, moves):
                if new not in before:
                    before[new] = (now, move)
                    found.append(new)
        latest = found
    return before


def way_to(crowd, before):
    """The moves that lead to a crowd, a tuple, in a dict that reach made."""
    back = []
    step = before[crowd]
    while step is not None:
        back.append(step[1])
        step = before[step[0]]
    return back[::-1]
