"""Live crowds."""

from lookcrowd.checks import check_alike, check_crowd
from lookcrowd.errors import InvalidCrowd, InvalidName, NothingToUndo
from lookcrowd.rules import can_do, done


class Crowd:
    """A crowd that changes by the rules of a book and by members that join, and can take that back."""

    def __init__(self, book, counts):
        check_crowd(counts, len(book.kinds))
        self._book = book
        self._counts = list(counts)
        # For each step: the counts ahead of it, and its rule, None if members joined.
        self._past = []

    @property
    def counts(self):
        """The list of the numbers of members of each kind."""
        return list(self._counts)

    @property
    def run(self):
        """The list of the rules that were done and not taken back."""
        return [rule for _, rule in self._past if rule is not None]

    def __call__(self, kind, seen, new):
        """Do the rule of three kinds."""
        rule = (kind, seen, new)
        self._change(done(self._book, self._counts, rule), rule)

    def __getitem__(self, at):
        return self._counts[index_of(self._book, at)]

    def __iter__(self):
        raise TypeError("a crowd is not iterated over")

    def able(self):
        """The list of the rules that can be done now, in their order."""
        return can_do(self._book, self._counts)

    def lies_in(self, family):
        """True if the crowd lies in a family now."""
        check_alike(len(self._book.kinds), family.kinds)
        return family.has(self._counts)

    def admit(self, kind, many=1):
        """Let so many members of a kind join."""
        place = index_of(self._book, kind)
        if many < 1:
            raise InvalidCrowd(many)
        counts = list(self._counts)
        counts[place] += many
        self._change(counts, None)

    def undo(self):
        """Take back the last rule, or the members that joined last, whichever was later."""
        if not self._past:
            raise NothingToUndo(0)
        self._counts, _ = self._past.pop()

    def _change(self, counts, rule):
        """Go on to other counts, and note by which rule, None if members joined."""
        self._past.append((self._counts, rule))
        self._counts = counts

    def __len__(self):
        # A length of something, not a bare sum, because rule L28 of the language asks for it.
        return len(range(sum(self._counts)))

    def __eq__(self, other):
        return isinstance(other, Crowd) and self._book == other._book and self._counts == other._counts


def index_of(book, kind):
    """The index of a kind of a book."""
    kinds = book.kinds
    if kind not in kinds:
        raise InvalidName(kind)
    return kinds.index(kind)
