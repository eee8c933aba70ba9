"""The house: its size, its slots with their boxes, what is told of the kinds, and the kept plan."""

from ductplan.boxes import AXES, cell_count, has_cell, shared_cells, steps_away
from ductplan.changes import changes
from ductplan.kinds import KindPairs

SLOT_COUNT = 16
GREATEST_SIZE = (5, 5, 3)


def is_size(size):
    return all([1 <= size[axis] <= GREATEST_SIZE[axis] for axis in AXES])


class House:
    """What one list of calls works on; it has no size before a begin that's answered 0."""

    def __init__(self):
        self.begin(None)

    def begin(self, size):
        """Forgets all that was there before."""
        self.size = size
        self.slots = [None] * SLOT_COUNT
        self.passing = KindPairs()
        self.spacing = KindPairs()
        self.kept = None

    def is_begun(self):
        return self.size is not None

    def is_inside(self, cell):
        return all([cell[axis] < self.size[axis] for axis in AXES])

    def cells(self):
        found = []
        for x in range(self.size[0]):
            for y in range(self.size[1]):
                found.extend([(x, y, z) for z in range(self.size[2])])
        return found

    def box_of(self, slot):
        """The slot's box; None if it has none, or if there's no such slot."""
        if slot >= SLOT_COUNT:
            return None
        return self.slots[slot]

    def empty_slots(self):
        return [slot for slot, box in enumerate(self.slots) if box is None]

    def taken_slots(self):
        return [slot for slot, box in enumerate(self.slots) if box is not None]

    def other_taken_slots(self, slot):
        return [other for other in self.taken_slots() if other != slot]

    def slots_with_cell(self, cell):
        return [slot for slot in self.taken_slots() if has_cell(self.slots[slot], cell)]

    def slots_clashing_with(self, slot):
        """The other slots alone: it takes two boxes to clash."""
        return [other for other in self.other_taken_slots(slot) if self.is_clash(slot, other)]

    def slots_passed_by(self, slot):
        """The other slots whose boxes share cells with the slot's and may, each with how many cells."""
        found = []
        for other in self.other_taken_slots(slot):
            cells = shared_cells(self.slots[slot], self.slots[other])
            if cells > 0 and self.may_pass(self.slots[slot].kind, self.slots[other].kind):
                found.append((other, cells))
        return found

    def may_pass(self, kind, other):
        return self.passing.told(kind, other) == 1

    def is_clash(self, slot, other):
        return self.do_clash(self.slots[slot], self.slots[other])

    def do_clash(self, box, other):
        return shared_cells(box, other) > 0 and not self.may_pass(box.kind, other.kind)

    def is_too_near(self, slot, other):
        box = self.slots[slot]
        fellow = self.slots[other]
        return steps_away(box, fellow) < self.spacing.told(box.kind, fellow.kind)

    def taken_pairs(self):
        """All pairs of slots that have a box, the lesser slot first, rising."""
        taken = self.taken_slots()
        pairs = []
        for rank, slot in enumerate(taken):
            pairs.extend([(slot, other) for other in taken[rank + 1:]])
        return pairs

    def clashing_pairs(self):
        return [pair for pair in self.taken_pairs() if self.is_clash(pair[0], pair[1])]

    def too_near_pairs(self):
        return [pair for pair in self.taken_pairs() if self.is_too_near(pair[0], pair[1])]

    def volume_of(self, kind):
        """The cells of each box of that kind, together."""
        boxes = [self.slots[slot] for slot in self.taken_slots()]
        return sum([cell_count(box) for box in boxes if box.kind == kind])

    def is_free(self, cell, kind):
        """Whether no box has the cell through which that kind may not go."""
        return all([self.may_pass(kind, self.slots[slot].kind) for slot in self.slots_with_cell(cell)])

    def free_cells(self, kind):
        """A dict that has just the cells that are free for that kind."""
        return dict([(cell, True) for cell in self.cells() if self.is_free(cell, kind)])

    def keep(self):
        # A box is never changed once made, so a copy of the slots alone stays as it is.
        self.kept = list(self.slots)

    def is_kept(self):
        return self.kept is not None

    def take_back(self):
        self.slots = list(self.kept)

    def changes_since_kept(self):
        return changes(self.kept, self.slots)

    def was_clash(self, slot, other):
        """Whether the slots' kept boxes would clash by what the kinds may now."""
        box = self.kept[slot]
        fellow = self.kept[other]
        return box is not None and fellow is not None and self.do_clash(box, fellow)

    def new_clashing_pairs(self):
        return [pair for pair in self.clashing_pairs() if not self.was_clash(pair[0], pair[1])]
