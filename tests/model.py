"""A slow model of the program that goes cell by cell: a box is a set of cells."""

import itertools

from tests.slow_ways import best_by_rank, cells_of, pieces_of


def cells_between(first, end):
    return set(itertools.product(*[range(low, high + 1) for low, high in zip(first, end)]))


def counted(rows):
    """How many rows, then the numbers of each."""
    return [len(rows)] + [number for row in rows for number in row]


class Model:
    """Boxes by their slots; what kinds may, and must, as dicts asked both ways."""

    def __init__(self):
        self.house = None

    def answer(self, call):
        if call[0] != "begin" and self.house is None:
            return [-11]
        return getattr(self, call[0])(*call[1:])

    def begin(self, w, d, h):
        if w not in range(1, 6) or d not in range(1, 6) or h not in range(1, 4):
            return [-22]
        self.size = [w, d, h]
        self.house = cells_between((0, 0, 0), (w - 1, d - 1, h - 1))
        self.boxes = {}
        self.on = {}
        self.least = {}
        self.kept = None
        return [0]

    def empty(self):
        return [slot for slot in range(16) if slot not in self.boxes]

    def box(self, kind, x0, y0, z0, x1, y1, z1):
        first, end = (x0, y0, z0), (x1, y1, z1)
        if kind > 3 or first not in self.house or end not in self.house:
            return [-22]
        cells = cells_between(first, end)
        if first not in cells:
            return [-22]
        if not self.empty():
            return [-28]
        slot = self.empty()[0]
        self.boxes[slot] = (kind, cells)
        return [slot]

    def drop(self, b):
        if b not in self.boxes:
            return [-2]
        del self.boxes[b]
        return [0]

    def place(self, b, x, y, z):
        if b not in self.boxes:
            return [-2]
        kind, cells = self.boxes[b]
        first = min(cells)
        there = {tuple(n - f + t for n, f, t in zip(cell, first, (x, y, z))) for cell in cells}
        if not there <= self.house:
            return [-22]
        self.boxes[b] = (kind, there)
        return [0]

    def may(self, k, l, on):
        if k > 3 or l > 3 or on > 1:
            return [-22]
        was = self.on.get((k, l), 0)
        self.on[k, l] = self.on[l, k] = on
        return [was]

    def far(self, k, l, n):
        if k > 3 or l > 3 or n > 5:
            return [-22]
        was = self.least.get((k, l), 0)
        self.least[k, l] = self.least[l, k] = n
        return [was]

    def is_clash_in(self, boxes, a, b):
        if a not in boxes or b not in boxes:
            return False
        (k, cells), (l, others) = boxes[a], boxes[b]
        return bool(cells & others) and not self.on.get((k, l), 0)

    def is_clash(self, a, b):
        return self.is_clash_in(self.boxes, a, b)

    def steps(self, a, b):
        cells, others = self.boxes[a][1], self.boxes[b][1]
        return max(min(abs(c[axis] - o[axis]) for c in cells for o in others) for axis in range(3))

    def pairs(self, asked):
        return counted([pair for pair in itertools.combinations(sorted(self.boxes), 2) if asked(*pair)])

    def clashes(self):
        return self.pairs(self.is_clash)

    def near(self):
        return self.pairs(lambda a, b: self.steps(a, b) < self.least.get((self.boxes[a][0], self.boxes[b][0]), 0))

    def common(self, a, b):
        if a not in self.boxes or b not in self.boxes:
            return [-2]
        return [len(self.boxes[a][1] & self.boxes[b][1])]

    def hits(self, b):
        if b not in self.boxes:
            return [-2]
        return counted([(other,) for other in sorted(self.boxes) if other != b and self.is_clash(b, other)])

    def at(self, x, y, z):
        if (x, y, z) not in self.house:
            return [-2]
        return counted([(slot,) for slot in sorted(self.boxes) if (x, y, z) in self.boxes[slot][1]])

    def away(self, a, b):
        if a not in self.boxes or b not in self.boxes:
            return [-2]
        return [self.steps(a, b)]

    def free(self, k):
        taken = [cells for kind, cells in self.boxes.values() if not self.on.get((k, kind), 0)]
        return self.house.difference(*taken)

    def way_cells(self, k, start, end):
        """A refusal alone, or a list of cells."""
        if start not in self.house or end not in self.house:
            return -2, None
        if k > 3:
            return -22, None
        sides = best_by_rank(self.free(k), start, end)
        if sides is None:
            return -33, None
        return None, cells_of(start, sides)

    def way(self, k, x0, y0, z0, x1, y1, z1):
        refusal, cells = self.way_cells(k, (x0, y0, z0), (x1, y1, z1))
        if refusal:
            return [refusal]
        return [len(pieces_of(cells)) - 1] + counted(cells)

    def lay(self, k, x0, y0, z0, x1, y1, z1):
        refusal, cells = self.way_cells(k, (x0, y0, z0), (x1, y1, z1))
        if refusal:
            return [refusal]
        pieces = pieces_of(cells)
        if len(pieces) > len(self.empty()):
            return [-28]
        for piece in pieces:
            self.boxes[self.empty()[0]] = (k, set(piece))
        return [len(pieces)]

    def through(self, b):
        if b not in self.boxes:
            return [-2]
        rows = []
        for other in sorted(self.boxes):
            shared = self.boxes[b][1] & self.boxes[other][1]
            if other != b and shared and not self.is_clash(b, other):
                rows.append((other, len(shared)))
        return counted(rows)

    def volume(self, k):
        if k > 3:
            return [-22]
        return [sum(len(cells) for kind, cells in self.boxes.values() if kind == k)]

    def keep(self):
        self.kept = dict(self.boxes)
        return [len(self.boxes)]

    def changed_rows(self):
        rows = []
        for slot in range(16):
            was, now = self.kept.get(slot), self.boxes.get(slot)
            if was != now:
                rows.append((slot, 0 if was is None else 1 if now is None else 2))
        return rows

    def changed(self):
        return [-16] if self.kept is None else counted(self.changed_rows())

    def newly(self):
        if self.kept is None:
            return [-16]
        return self.pairs(lambda a, b: self.is_clash(a, b) and not self.is_clash_in(self.kept, a, b))

    def back(self):
        if self.kept is None:
            return [-16]
        rows = self.changed_rows()
        self.boxes = dict(self.kept)
        return [len(rows)]

    def look(self, b):
        if b not in self.boxes:
            return [-2]
        kind, cells = self.boxes[b]
        return [kind, *min(cells), *max(cells)]

    def state(self):
        pairs = [pair for pair in itertools.combinations_with_replacement(range(4), 2) if self.on.get(pair, 0)]
        return [len(self.boxes), *self.size, len(pairs), int(self.kept is not None)]
