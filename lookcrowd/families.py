"""Families of crowds."""

from lookcrowd.cells import cells_of, cuts_of, greatest_boxes
from lookcrowd.checks import check_alike, check_crowd
from lookcrowd.errors import InvalidBox


class Family:
    """The crowds that lie in the boxes of a list, each in at least one. It never changes."""

    def __init__(self, kinds, boxes):
        for at, box in enumerate(boxes):
            if not is_box(box, kinds):
                raise InvalidBox(at)
        cuts = cuts_of(kinds, boxes)
        self._kinds = kinds
        self._boxes = greatest_boxes(cells_of(boxes, cuts), cuts)

    @property
    def kinds(self):
        """The number of kinds."""
        return self._kinds

    @property
    def boxes(self):
        """The list of the greatest boxes."""
        return [list(box) for box in self._boxes]

    def has(self, crowd):
        """True if a crowd lies in the family."""
        check_crowd(crowd, self._kinds)
        for box in self._boxes:
            if holds(box, crowd):
                return True
        return False

    def first(self):
        """The crowd with the fewest members, the first of them as lists; None if there is none."""
        firsts = [[least for least, _ in box] for box in self._boxes]
        return min(firsts, key=lambda crowd: (sum(crowd), crowd), default=None)

    def bound(self):
        """The least number beyond which the family tells no numbers apart."""
        # The boxes are the greatest ones, so at each of their edges the family does change.
        cuts = cuts_of(self._kinds, self._boxes)
        return max([row[-1] for row in cuts])

    def within(self, other):
        """True if all crowds of the family lie in the other one."""
        check_alike(self._kinds, other._kinds)
        for box in self._boxes:
            # A box that lies in a family lies in one of its greatest boxes.
            if not any([lies_within(box, wide) for wide in other._boxes]):
                return False
        return True

    def __len__(self):
        return len(self._boxes)

    def __eq__(self, other):
        return isinstance(other, Family) and self._kinds == other._kinds and self._boxes == other._boxes

    def __and__(self, other):
        cuts = shared_cuts(self, other)
        cells = cells_of(self._boxes, cuts) & cells_of(other._boxes, cuts)
        return Family(self._kinds, greatest_boxes(cells, cuts))

    def __or__(self, other):
        check_alike(self._kinds, other._kinds)
        return Family(self._kinds, self._boxes + other._boxes)

    def __sub__(self, other):
        cuts = shared_cuts(self, other)
        cells = cells_of(self._boxes, cuts) & ~cells_of(other._boxes, cuts)
        return Family(self._kinds, greatest_boxes(cells, cuts))

    def __invert__(self):
        cuts = cuts_of(self._kinds, self._boxes)
        return Family(self._kinds, greatest_boxes(~cells_of(self._boxes, cuts), cuts))


def is_box(box, kinds):
    """True if a list is a box for so many kinds."""
    return len(box) == kinds and all([is_pair(pair) for pair in box])


def is_pair(pair):
    """True for a tuple of a least number and a most one, that is as great or None."""
    if not isinstance(pair, tuple) or len(pair) != 2:
        return False
    least, most = pair
    return is_number(least) and (most is None or is_number(most) and most >= least)


def is_number(value):
    """True for an integer that is at least 0, and neither True nor False."""
    return isinstance(value, int) and not isinstance(value, bool) and value >= 0


def holds(box, crowd):
    """True if a crowd lies in a box."""
    for (least, most), many in zip(box, crowd):
        if many < least or most is not None and many > most:
            return False
    return True


def lies_within(box, wide):
    """True if a box lies in another one."""
    for (least, most), (low, high) in zip(box, wide):
        if least < low or high is not None and (most is None or most > high):
            return False
    return True


def shared_cuts(one, other):
    """The cuts of two families of the same kinds."""
    check_alike(one._kinds, other._kinds)
    return cuts_of(one._kinds, one._boxes + other._boxes)
