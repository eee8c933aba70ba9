"""The calls by their numbers: what each takes, and the list of numbers that it answers."""

from ductplan.boxes import Box, is_in_order, moved, shared_cells, steps_away
from ductplan.house import is_size
from ductplan.kinds import is_kind
from ductplan.refusals import NO_SLOT, NO_SUCH, NO_WAY, NONE_KEPT, NOT_AS_TOLD, NOT_BEGUN
from ductplan.ways import best_way

BEGIN = 0
GREATEST_DISTANCE = 5


def call_begin(house, given):
    if not is_size(given):
        return [NOT_AS_TOLD]
    house.begin(given)
    return [0]


def call_box(house, given):
    box = Box(given[0], given[1:4], given[4:7])
    if not is_kind(box.kind) or not is_in_order(box) or not house.is_inside(box.last):
        return [NOT_AS_TOLD]
    empty = house.empty_slots()
    if not empty:
        return [NO_SLOT]
    slot = empty[0]
    house.slots[slot] = box
    return [slot]


def call_drop(house, given):
    slot = given[0]
    if house.box_of(slot) is None:
        return [NO_SUCH]
    house.slots[slot] = None
    return [0]


def call_place(house, given):
    slot = given[0]
    box = house.box_of(slot)
    if box is None:
        return [NO_SUCH]
    moved_box = moved(box, given[1:4])
    # A first cell outside puts the box outside, so this alone tells it: there's no -2 for that cell.
    if not house.is_inside(moved_box.last):
        return [NOT_AS_TOLD]
    house.slots[slot] = moved_box
    return [0]


def call_may(house, given):
    if not is_kind(given[0]) or not is_kind(given[1]) or given[2] > 1:
        return [NOT_AS_TOLD]
    return [house.passing.tell(given[0], given[1], given[2])]


def call_far(house, given):
    if not is_kind(given[0]) or not is_kind(given[1]) or given[2] > GREATEST_DISTANCE:
        return [NOT_AS_TOLD]
    return [house.spacing.tell(given[0], given[1], given[2])]


def call_clashes(house, given):
    return counted_pairs(house.clashing_pairs())


def call_common(house, given):
    return answer_two_boxes(house, given, shared_cells)


def call_hits(house, given):
    slot = given[0]
    if house.box_of(slot) is None:
        return [NO_SUCH]
    return counted(house.slots_clashing_with(slot))


def call_at(house, given):
    if not house.is_inside(given):
        return [NO_SUCH]
    return counted(house.slots_with_cell(given))


def call_near(house, given):
    return counted_pairs(house.too_near_pairs())


def call_away(house, given):
    return answer_two_boxes(house, given, steps_away)


def answer_two_boxes(house, given, measure):
    """A refusal, or what `measure` answers for the two boxes."""
    box = house.box_of(given[0])
    other = house.box_of(given[1])
    if box is None or other is None:
        return [NO_SUCH]
    return [measure(box, other)]


def call_way(house, given):
    return answer_way(house, given, told_way)


def call_lay(house, given):
    return answer_way(house, given, laid_way)


def answer_way(house, given, answer_pieces):
    """A refusal, or what `answer_pieces` answers for the straight pieces of the best way."""
    kind = given[0]
    start = given[1:4]
    end = given[4:7]
    if not house.is_inside(start) or not house.is_inside(end):
        return [NO_SUCH]
    if not is_kind(kind):
        return [NOT_AS_TOLD]
    pieces = best_way(house.free_cells(kind), start, end)
    if pieces is None:
        return [NO_WAY]
    return answer_pieces(house, kind, pieces)


def told_way(house, kind, pieces):
    numbers = [len(pieces) - 1, sum([len(piece) for piece in pieces])]
    for piece in pieces:
        for cell in piece:
            numbers.extend(cell)
    return numbers


def laid_way(house, kind, pieces):
    empty = house.empty_slots()
    if len(empty) < len(pieces):
        return [NO_SLOT]
    for slot, piece in zip(empty, pieces):
        # A way may go either way along an axis; a box has its lesser cell first.
        house.slots[slot] = Box(kind, min(piece), max(piece))
    return [len(pieces)]


def call_through(house, given):
    slot = given[0]
    if house.box_of(slot) is None:
        return [NO_SUCH]
    return counted_pairs(house.slots_passed_by(slot))


def call_volume(house, given):
    kind = given[0]
    if not is_kind(kind):
        return [NOT_AS_TOLD]
    return [house.volume_of(kind)]


def call_keep(house, given):
    house.keep()
    return [len(house.taken_slots())]


def call_changed(house, given):
    if not house.is_kept():
        return [NONE_KEPT]
    return counted_pairs(house.changes_since_kept())


def call_newly(house, given):
    if not house.is_kept():
        return [NONE_KEPT]
    return counted_pairs(house.new_clashing_pairs())


def call_back(house, given):
    if not house.is_kept():
        return [NONE_KEPT]
    changed = house.changes_since_kept()
    house.take_back()
    return [len(changed)]


def call_look(house, given):
    box = house.box_of(given[0])
    if box is None:
        return [NO_SUCH]
    return [box.kind] + list(box.first) + list(box.last)


def call_state(house, given):
    kept = 1 if house.is_kept() else 0
    return [len(house.taken_slots())] + list(house.size) + [house.passing.pair_count(), kept]


def counted(slots):
    """How many, then they."""
    return [len(slots)] + slots


def counted_pairs(pairs):
    """How many, then the two numbers of each."""
    numbers = [len(pairs)]
    for pair in pairs:
        numbers.extend(pair)
    return numbers


# How many numbers each call takes, by its own number.
ARGUMENT_COUNTS = (3, 7, 1, 4, 3, 3, 0, 2, 1, 3, 0, 2, 7, 7, 1, 1, 0, 0, 0, 0, 1, 0)

HANDLERS = (
    call_begin,
    call_box,
    call_drop,
    call_place,
    call_may,
    call_far,
    call_clashes,
    call_common,
    call_hits,
    call_at,
    call_near,
    call_away,
    call_way,
    call_lay,
    call_through,
    call_volume,
    call_keep,
    call_changed,
    call_newly,
    call_back,
    call_look,
    call_state,
)


def argument_count(number):
    return ARGUMENT_COUNTS[number]


def answer_call(house, number, given):
    """What one call answers; `given` is the tuple of its arguments."""
    if number != BEGIN and not house.is_begun():
        return [NOT_BEGUN]
    handler = HANDLERS[number]
    return handler(house, given)
