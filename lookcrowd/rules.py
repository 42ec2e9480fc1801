"""Books of rules, what a rule does in a crowd, and which rules follow from others."""

from lookcrowd.checks import check_crowd
from lookcrowd.errors import DoubleName, DoubleRule, InvalidName, InvalidRule, NotAble, UnlikeKinds
from lookcrowd.steps import after, is_able, reach

LETTERS = "abcdefghijklmnopqrstuvwxyz"
LONGEST = 8


class Book:
    """The names of some kinds, and rules over them. It never changes."""

    def __init__(self, kinds, rules):
        check_names(kinds)
        check_rules(kinds, rules)
        self._kinds = list(kinds)
        self._moves = sorted([move_of(kinds, rule) for rule in rules])

    @property
    def kinds(self):
        """The list of the names of the kinds."""
        return list(self._kinds)

    @property
    def rules(self):
        """The list of the rules, ascending by the indexes of their kinds."""
        return [rule_of(self._kinds, move) for move in self._moves]

    @property
    def moves(self):
        """The list of the rules, told by the indexes of their kinds."""
        return list(self._moves)

    def without(self, rule):
        """The book without one of its rules."""
        rules = self.rules
        if rule not in rules:
            raise InvalidRule(rule)
        return Book(self._kinds, [other for other in rules if other != rule])

    def __len__(self):
        return len(self._moves)

    def __eq__(self, other):
        return isinstance(other, Book) and self._kinds == other._kinds and self._moves == other._moves


def check_names(kinds):
    """Raise an error at the first name that is none, or that stood before."""
    for at, name in enumerate(kinds):
        if not is_name(name):
            raise InvalidName(name)
        if name in kinds[:at]:
            raise DoubleName(name)


def is_name(name):
    """True if a text may name a kind."""
    return 1 <= len(name) <= LONGEST and all([letter in LETTERS for letter in name])


def check_rules(kinds, rules):
    """Raise an error at the first rule that is none, or that stood before."""
    for at, rule in enumerate(rules):
        check_rule(kinds, rule)
        if rule in rules[:at]:
            raise DoubleRule(rule)


def check_rule(kinds, rule):
    """Raise InvalidRule unless a rule is one over some kinds."""
    kind, seen, new = rule
    if kind not in kinds or seen not in kinds or new not in kinds or new == kind:
        raise InvalidRule(rule)


def move_of(kinds, rule):
    """The indexes of the kinds of a rule."""
    kind, seen, new = rule
    return (kinds.index(kind), kinds.index(seen), kinds.index(new))


def rule_of(kinds, move):
    """The rule of kinds told by their indexes."""
    kind, seen, new = move
    return (kinds[kind], kinds[seen], kinds[new])


def can_do(book, crowd):
    """The list of the rules that can be done in a crowd, in their order."""
    kinds = book.kinds
    check_crowd(crowd, len(kinds))
    return [rule_of(kinds, move) for move in book.moves if is_able(crowd, move)]


def done(book, crowd, rule):
    """The crowd behind a rule of the book."""
    able = can_do(book, crowd)
    if rule not in book.rules:
        raise InvalidRule(rule)
    if rule not in able:
        raise NotAble(rule)
    return after(crowd, move_of(book.kinds, rule))


def follow(book, crowd, run):
    """The crowd to which a run leads."""
    kinds = book.kinds
    check_crowd(crowd, len(kinds))
    now = list(crowd)
    for at, rule in enumerate(run):
        if rule not in can_do(book, now):
            raise NotAble(at)
        now = after(now, move_of(kinds, rule))
    return now


def follows(book, rule):
    """True if each crowd in which a rule can be done leads to the crowd behind it by the book's rules."""
    kinds = book.kinds
    check_rule(kinds, rule)
    return comes_about(len(kinds), book.moves, move_of(kinds, rule))


def comes_about(kinds, moves, move):
    """True if moves lead the two members of a move to the crowd behind it.

    If they do, they do so in each crowd in which the move can be done: more members hinder nothing.
    """
    pair = crowd_of_two(kinds, move[0], move[1])
    return tuple(after(pair, move)) in reach(pair, moves)


def crowd_of_two(kinds, one, other):
    """The crowd of two members, told by the indexes of their kinds."""
    crowd = [0] * kinds
    crowd[one] += 1
    crowd[other] += 1
    return crowd


def needless(book):
    """The list of the rules that follow from the other ones of the book, in order."""
    return [rule for rule in book.rules if follows(book.without(rule), rule)]


def least_rules(book):
    """The list of all least sets of the book's rules from which all other ones follow."""
    kinds, moves, rules = len(book.kinds), book.moves, book.rules
    found = []
    # Sets with fewer rules come first, so a set is a least one if it holds none that was found.
    for chosen in choices(len(moves)):
        if not holds_one(chosen, found) and all_come_about(kinds, moves, chosen):
            found.append(chosen)
    return [[rules[at] for at in chosen] for chosen in found]


def choices(many):
    """All lists of ascending indexes below a number, by their lengths, then as lists."""
    lists = [[at for at in range(many) if bits >> at & 1] for bits in range(1 << many)]
    return sorted(lists, key=lambda indexes: (len(indexes), indexes))


def holds_one(chosen, found):
    """True if a list of indexes holds all indexes of one of those found."""
    for least in found:
        if all([at in chosen for at in least]):
            return True
    return False


def all_come_about(kinds, moves, chosen):
    """True if all moves follow from the chosen ones."""
    kept = [moves[at] for at in chosen]
    for move in moves:
        if not comes_about(kinds, kept, move):
            return False
    return True


def first_unlike(one, other):
    """The first crowd that leads to some crowd by the rules of one book only; None if there is none."""
    if one.kinds != other.kinds:
        raise UnlikeKinds((one.kinds, other.kinds))
    # If two members never tell the books apart, each rule of one follows from the other's.
    for pair in crowds_of_two(len(one.kinds)):
        if sorted(reach(pair, one.moves)) != sorted(reach(pair, other.moves)):
            return pair
    return None


def crowds_of_two(kinds):
    """All crowds of two members, in their order."""
    return sorted([crowd_of_two(kinds, one, other) for one in range(kinds) for other in range(one, kinds)])
