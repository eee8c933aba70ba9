"""Calls by their names, for the tests: told as tuples, answered as a list of lists."""

from ductplan.plan import answers

NAMES = (
    "begin", "box", "drop", "place", "may", "far", "clashes", "common", "hits", "at", "near",
    "away", "way", "lay", "through", "volume", "keep", "changed", "newly", "back", "look", "state",
)
GREATEST = 4294967295
MOST_CALLS = 60

# Asks for all that can be seen without a kept plan; what a refusal hasn't changed is answered alike.
EVERYTHING = (("state",), ("clashes",), ("near",)) + tuple(("look", slot) for slot in range(16))


def numbered(calls):
    """One list of whole numbers, as the interface takes it."""
    numbers = []
    for call in calls:
        numbers.append(NAMES.index(call[0]))
        numbers.extend(call[1:])
    return numbers


def split(numbers):
    """The answers one by one; it fails if the counts don't come out even."""
    found = []
    start = 0
    while start < len(numbers):
        end = start + 1 + numbers[start]
        if numbers[start] < 1 or end > len(numbers):
            raise AssertionError(f"counts that don't come out even: {numbers}")
        found.append(numbers[start + 1:end])
        start = end
    return found


def told(*calls):
    """What each of the calls is answered, on one new object."""
    if len(calls) > MOST_CALLS:
        raise AssertionError(f"{len(calls)} calls are more than a list may hold")
    found = split(answers(numbered(calls)))
    if len(found) != len(calls):
        raise AssertionError(f"{len(calls)} calls, but {len(found)} answers")
    return found


def last(*calls):
    """What the last of the calls is answered."""
    return told(*calls)[-1]


def boxes(*calls):
    """What each slot's box looks like behind the calls, by its slot."""
    found = told(*calls, *[("look", slot) for slot in range(16)])[len(calls):]
    return {slot: answer for slot, answer in enumerate(found) if answer != [-2]}
