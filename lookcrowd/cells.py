"""Cells: the crowds that some boxes do not tell apart, as the bits of one integer.

The cuts of a kind are the numbers at which a box begins or has just ended. They part the numbers
of the kind into ranges, the last one without an end, and so all crowds into cells: a range for
each kind. A set of cells is an integer with one bit for each cell; the cells of the last kind lie
side by side. What holds for one crowd of a cell holds for all, so signs between families become
signs between integers, however great the numbers are.
"""


def cuts_of(kinds, boxes):
    """The cuts of each kind, ascending."""
    return [sorted(set([0] + edges(boxes, kind))) for kind in range(kinds)]


def edges(boxes, kind):
    """The numbers of a kind at which boxes begin or have just ended."""
    begins = [box[kind][0] for box in boxes]
    ends = [box[kind][1] + 1 for box in boxes if box[kind][1] is not None]
    return begins + ends


def sizes_of(cuts):
    """The number of ranges of each kind."""
    return [len(row) for row in cuts]


def volume(sizes):
    """The number of cells of kinds with so many ranges each."""
    many = 1
    for size in sizes:
        many = many * size
    return many


def cells_of(boxes, cuts):
    """The integer of the cells that lie in boxes, all of whose edges are cuts."""
    cells = 0
    for box in boxes:
        cells = cells | cells_of_box(box, cuts)
    return cells


def cells_of_box(box, cuts):
    """The integer of the cells that lie in one box."""
    cells, width = 1, 1
    for kind in reversed(range(len(cuts))):
        least, most = box[kind]
        low = cuts[kind].index(least)
        end = len(cuts[kind]) if most is None else cuts[kind].index(most + 1)
        cells = repeated(cells, width, low, end)
        width = width * len(cuts[kind])
    return cells


def repeated(cells, width, low, end):
    """The cells of one layer, put into each layer of a range of layers of a width."""
    return sum([cells << width * layer for layer in range(low, end)])


def greatest_boxes(cells, cuts):
    """The boxes that lie whole among the cells and in no other such box, in their order."""
    return [box_of(ranges, cuts) for ranges, _ in blocks(cells, sizes_of(cuts))]


def box_of(ranges, cuts):
    """The box of some ranges, each told by its first layer and the one behind its last."""
    return [pair_of(low, end, row) for (low, end), row in zip(ranges, cuts)]


def pair_of(low, end, row):
    """The least and the greatest number of a range of layers."""
    return (row[low], None if end == len(row) else row[end] - 1)


def blocks(cells, sizes):
    """The greatest blocks among the cells, in order, each as its ranges and its cells.

    Bits beyond those of all cells do not count.
    """
    if not sizes:
        return [((), cells)] if cells else []
    width = volume(sizes[1:])
    layer = (1 << width) - 1
    # An empty layer at either end stands for what lies beyond, so that every layer has two neighbours.
    layers = [0] + [cells >> width * at & layer for at in range(sizes[0])] + [0]
    found = []
    for low in range(sizes[0]):
        found.extend(blocks_from(low, layers, width, sizes))
    return found


def blocks_from(low, layers, width, sizes):
    """Those greatest blocks that begin with the layer of an index."""
    before = layers[low]
    common = layers[low + 1]
    found = []
    for end in range(low + 1, sizes[0] + 1):
        common = common & layers[end]
        # What all these layers share lies in the layer before, too: so will what more layers share.
        if common & before == common:
            break
        behind = layers[end + 1]
        if common & behind != common:
            for ranges, part in blocks(common, sizes[1:]):
                if part & before != part and part & behind != part:
                    found.append((((low, end),) + ranges, repeated(part, width, low, end)))
    return found
