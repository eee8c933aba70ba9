"""What has changed in the slots, against boxes that were kept."""

from ductplan.boxes import is_same

WAS_NONE = 0
NONE_ANY_MORE = 1
ANOTHER = 2


def change_of(before, now):
    """How one slot's box has changed; None if it hasn't."""
    if before is None and now is None:
        return None
    if before is None:
        return WAS_NONE
    if now is None:
        return NONE_ANY_MORE
    if is_same(before, now):
        return None
    return ANOTHER


def changes(before, now):
    """The slots that have changed, rising, each with how; both are lists of all slots' boxes."""
    found = []
    for slot, box in enumerate(now):
        change = change_of(before[slot], box)
        if change is not None:
            found.append((slot, change))
    return found
