"""Families and books as texts."""


def show_family(family):
    """The number of kinds of a family, and its greatest boxes."""
    return "; ".join([str(family.kinds)] + [text_of_box(box) for box in family.boxes])


def text_of_box(box):
    """The ranges of a box."""
    return " ".join([text_of_pair(pair) for pair in box])


def text_of_pair(pair):
    """The least and the most number of a range, the latter empty if there is none."""
    least, most = pair
    return f"{least}.." if most is None else f"{least}..{most}"


def show_book(book):
    """The kinds of a book, and its rules."""
    return "; ".join([" ".join(book.kinds)] + [text_of_rule(rule) for rule in book.rules])


def text_of_rule(rule):
    """What a rule's kind sees, and what it becomes."""
    kind, seen, new = rule
    return f"{kind} sees {seen}: {new}"
