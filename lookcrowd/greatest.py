"""Whether boxes are just the greatest boxes of their family.

This compares boxes with one another and makes no cells, whose number grows fast with the number
of kinds; so it can judge whatever boxes a text tells.
"""

from lookcrowd.families import lies_within


def are_greatest(boxes):
    """True if boxes for the same number of kinds are the greatest boxes of their family, in order."""
    if not ascend(boxes):
        return False
    for box in boxes:
        if covers(boxes, box) != 1 or not all_bridged(boxes, box):
            return False
    return True


def ascend(boxes):
    """True if each box comes before the next one."""
    ranks = [rank_of(box) for box in boxes]
    return all([rank < following for rank, following in zip(ranks, ranks[1:])])


def rank_of(box):
    """What orders a box among others."""
    return [(least, most is None, most) for least, most in box]


def covers(boxes, box):
    """The number of boxes in which a box lies."""
    return len([wide for wide in boxes if lies_within(box, wide)])


def all_bridged(boxes, box):
    """True if each bridge between a box and one of some boxes lies in one of these.

    If this is so for all of the boxes, each box in their family lies in one of them. Otherwise take
    a smallest one that does not, and cut it in two: each part lies in one of the boxes, the whole
    in a bridge between these two, and that lies in one of the boxes after all.
    """
    for other in boxes:
        for bridge in bridges(box, other):
            if covers(boxes, bridge) == 0:
                return False
    return True


def bridges(one, other):
    """For each kind the box that joins two boxes along the kind, if they meet there."""
    shares = [share(pair, mate) for pair, mate in zip(one, other)]
    spans = [span(pair, mate) for pair, mate in zip(one, other)]
    found = [shares[:at] + [spans[at]] + shares[at + 1:] for at in range(len(one))]
    return [bridge for bridge in found if None not in bridge]


def share(pair, mate):
    """The range of the numbers in both of two ranges; None if there are none."""
    least, most = inner_ends(pair, mate)
    if most is not None and most < least:
        return None
    return (least, most)


def span(pair, mate):
    """The range of the numbers in two ranges that overlap or touch; None if they do neither."""
    least, most = inner_ends(pair, mate)
    if most is not None and most + 1 < least:
        return None
    endless = pair[1] is None or mate[1] is None
    return (min(pair[0], mate[0]), None if endless else max(pair[1], mate[1]))


def inner_ends(pair, mate):
    """The greater least number of two ranges, and their lesser most one, None if there is no most."""
    ends = [most for _, most in (pair, mate) if most is not None]
    return max(pair[0], mate[0]), min(ends, default=None)
