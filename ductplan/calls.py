"""The calls by their numbers: what each takes, and the list of numbers that it answers."""

from ductplan.boxes import Box, is_in_order, moved, shared_cells
from ductplan.house import is_size
from ductplan.kinds import is_kind
from ductplan.refusals import NO_SLOT, NO_SUCH, NOT_AS_TOLD, NOT_BEGUN

BEGIN = 0
GREATEST_DISTANCE = 5


def call_begin(house, given):
    if not is_size(given):
        return [NOT_AS_TOLD]
    house.begin(given)
    return [0]


def call_box(house, given):
    box = Box(given[0], given[1:4], given[4:7])
    if not is_kind(box.kind) or not is_in_order(box) or not house.is_inside(box.last):
        return [NOT_AS_TOLD]
    slot = house.first_empty_slot()
    if slot is None:
        return [NO_SLOT]
    house.slots[slot] = box
    return [slot]


def call_drop(house, given):
    slot = given[0]
    if house.box_of(slot) is None:
        return [NO_SUCH]
    house.slots[slot] = None
    return [0]


def call_place(house, given):
    slot = given[0]
    box = house.box_of(slot)
    if box is None:
        return [NO_SUCH]
    moved_box = moved(box, given[1:4])
    # A first cell outside puts the box outside, so this alone tells it: there's no -2 for that cell.
    if not house.is_inside(moved_box.last):
        return [NOT_AS_TOLD]
    house.slots[slot] = moved_box
    return [0]


def call_may(house, given):
    if not is_kind(given[0]) or not is_kind(given[1]) or given[2] > 1:
        return [NOT_AS_TOLD]
    return [house.passing.tell(given[0], given[1], given[2])]


def call_far(house, given):
    if not is_kind(given[0]) or not is_kind(given[1]) or given[2] > GREATEST_DISTANCE:
        return [NOT_AS_TOLD]
    return [house.spacing.tell(given[0], given[1], given[2])]


def call_clashes(house, given):
    return counted_pairs(house.clashing_pairs())


def call_common(house, given):
    box = house.box_of(given[0])
    other = house.box_of(given[1])
    if box is None or other is None:
        return [NO_SUCH]
    return [shared_cells(box, other)]


def call_hits(house, given):
    slot = given[0]
    if house.box_of(slot) is None:
        return [NO_SUCH]
    return counted(house.slots_clashing_with(slot))


def call_at(house, given):
    if not house.is_inside(given):
        return [NO_SUCH]
    return counted(house.slots_with_cell(given))


def call_near(house, given):
    return counted_pairs(house.too_near_pairs())


def counted(slots):
    """How many, then they."""
    return [len(slots)] + slots


def counted_pairs(pairs):
    """How many, then the two slots of each."""
    numbers = [len(pairs)]
    for pair in pairs:
        numbers.extend(pair)
    return numbers


# How many numbers each call takes, by its own number. The calls that have no
# handler yet are in it too: ahead of a begin they are answered like the others.
ARGUMENT_COUNTS = (3, 7, 1, 4, 3, 3, 0, 2, 1, 3, 0, 2, 7, 7, 1, 1, 0, 0, 0, 0, 1, 0)

HANDLERS = (
    call_begin,
    call_box,
    call_drop,
    call_place,
    call_may,
    call_far,
    call_clashes,
    call_common,
    call_hits,
    call_at,
    call_near,
)


def argument_count(number):
    return ARGUMENT_COUNTS[number]


def answer_call(house, number, given):
    """What one call answers; `given` is the tuple of its arguments."""
    if number != BEGIN and not house.is_begun():
        return [NOT_BEGUN]
    if number >= len(HANDLERS):
        raise NotImplementedError(f"call {number} is not built yet")
    handler = HANDLERS[number]
    return handler(house, given)
