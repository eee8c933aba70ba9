"""Boxes of whole cells, and how two of them lie to one another."""

AXES = (0, 1, 2)


class Box:
    """A kind, and the cells from the first to the last, both too; it is never changed once made."""

    def __init__(self, kind, first, last):
        self.kind = kind
        self.first = first
        self.last = last


def is_in_order(box):
    return all([box.first[axis] <= box.last[axis] for axis in AXES])


def is_same(box, other):
    """The same kind, and the same cells."""
    return box.kind == other.kind and box.first == other.first and box.last == other.last


def has_cell(box, cell):
    return all([box.first[axis] <= cell[axis] <= box.last[axis] for axis in AXES])


def moved(box, cell):
    """The same box with its first cell at the given one."""
    last = tuple([cell[axis] + box.last[axis] - box.first[axis] for axis in AXES])
    return Box(box.kind, cell, last)


def shared_cells(box, other):
    """How many cells are in both."""
    cells = 1
    for axis in AXES:
        low = max(box.first[axis], other.first[axis])
        high = min(box.last[axis], other.last[axis])
        cells = cells * max(0, high - low + 1)
    return cells


def cell_count(box):
    return shared_cells(box, box)


def steps_away(box, other):
    """How far the two are away from one another: the greatest of the gaps along x, y and z."""
    gaps = [max(box.first[axis] - other.last[axis], other.first[axis] - box.last[axis]) for axis in AXES]
    # Where the two have a number in common the gap comes out at 0 or less.
    return max(0, max(gaps))
