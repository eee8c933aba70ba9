"""Kinds of boxes, and what is told of pairs of them."""

KIND_COUNT = 4


def is_kind(number):
    return number < KIND_COUNT


class KindPairs:
    """One number for each pair of kinds, alike both ways; 0 until another is told."""

    def __init__(self):
        self.numbers = {}

    def told(self, kind, other):
        return self.numbers.get(pair_key(kind, other), 0)

    def tell(self, kind, other, number):
        """Answers what it was."""
        before = self.told(kind, other)
        self.numbers[pair_key(kind, other)] = number
        return before

    def pair_count(self):
        """How many pairs have another number than 0."""
        return len([number for number in self.numbers.values() if number != 0])


def pair_key(kind, other):
    return (min(kind, other), max(kind, other))
