"""Moves, done in all crowds of a box at once.

A move is a rule told by the indexes of its kinds: (kind, seen kind, new kind).
"""


def able_part(box, move):
    """The box of the crowds of a box in which a move can be done, None if there are none."""
    kind, seen, _ = move
    part = list(box)
    part[seen] = at_least(box[seen], 1)
    # Nobody looks at itself: to see its own kind, a member needs another one of it.
    part[kind] = at_least(box[kind], 2 if kind == seen else 1)
    if part[kind] is None or part[seen] is None:
        return None
    return part


def at_least(pair, least):
    """The part of a range of numbers from a number on, None if there is none."""
    low, most = pair
    if most is not None and most < least:
        return None
    return (max(low, least), most)


def shifted(pair, by):
    """A range of numbers, all of them changed by a number."""
    least, most = pair
    return (least + by, None if most is None else most + by)


def box_after(part, move):
    """The box of the crowds behind a move that can be done in all crowds of a box."""
    kind, _, new = move
    box = list(part)
    box[kind] = shifted(part[kind], -1)
    box[new] = shifted(part[new], 1)
    return box


def box_long_after(part, move):
    """The same box, and crowds behind the same move again and again, as far as they make a box.

    If the kind has no most number, the new kind gets none either: the more members of the new kind
    there shall be, the more of the kind one takes to begin with, and does the move as often.
    """
    kind, _, new = move
    box = box_after(part, move)
    if part[kind][1] is None:
        box[new] = (box[new][0], None)
    return box


def one_step(boxes, moves):
    """The boxes of the crowds behind one move."""
    parts = able_parts(boxes, moves)
    return [box_after(part, move) for part, move in parts]


def many_steps(boxes, moves):
    """The boxes of the crowds behind one move, and of some behind the same move again and again."""
    parts = able_parts(boxes, moves)
    return [box_long_after(part, move) for part, move in parts]


def able_parts(boxes, moves):
    """Each part of a box in which a move can be done, with the move."""
    pairs = [(able_part(box, move), move) for box in boxes for move in moves]
    return [(part, move) for part, move in pairs if part is not None]
