"""The house: its size, its slots with their boxes, and what is told of the kinds."""

from ductplan.boxes import AXES, has_cell, shared_cells, steps_away
from ductplan.kinds import KindPairs

SLOT_COUNT = 16
GREATEST_SIZE = (5, 5, 3)


def is_size(size):
    return all([1 <= size[axis] <= GREATEST_SIZE[axis] for axis in AXES])


class House:
    """What one list of calls works on; it has no size before a begin that's answered 0."""

    def __init__(self):
        self.begin(None)

    def begin(self, size):
        """Forgets all that was there before."""
        self.size = size
        self.slots = [None] * SLOT_COUNT
        self.passing = KindPairs()
        self.spacing = KindPairs()

    def is_begun(self):
        return self.size is not None

    def is_inside(self, cell):
        return all([cell[axis] < self.size[axis] for axis in AXES])

    def box_of(self, slot):
        """The slot's box; None if it has none, or if there's no such slot."""
        if slot >= SLOT_COUNT:
            return None
        return self.slots[slot]

    def first_empty_slot(self):
        """None if all slots have a box."""
        for slot, box in enumerate(self.slots):
            if box is None:
                return slot
        return None

    def taken_slots(self):
        return [slot for slot, box in enumerate(self.slots) if box is not None]

    def slots_with_cell(self, cell):
        return [slot for slot in self.taken_slots() if has_cell(self.slots[slot], cell)]

    def slots_clashing_with(self, slot):
        """The other slots alone: it takes two boxes to clash."""
        return [other for other in self.taken_slots() if other != slot and self.is_clash(slot, other)]

    def is_clash(self, slot, other):
        box = self.slots[slot]
        fellow = self.slots[other]
        return shared_cells(box, fellow) > 0 and self.passing.told(box.kind, fellow.kind) == 0

    def is_too_near(self, slot, other):
        box = self.slots[slot]
        fellow = self.slots[other]
        return steps_away(box, fellow) < self.spacing.told(box.kind, fellow.kind)

    def taken_pairs(self):
        """All pairs of slots that have a box, the lesser slot first, rising."""
        taken = self.taken_slots()
        pairs = []
        for rank, slot in enumerate(taken):
            pairs.extend([(slot, other) for other in taken[rank + 1:]])
        return pairs

    def clashing_pairs(self):
        return [pair for pair in self.taken_pairs() if self.is_clash(pair[0], pair[1])]

    def too_near_pairs(self):
        return [pair for pair in self.taken_pairs() if self.is_too_near(pair[0], pair[1])]
