"""Lists of calls that are drawn, mostly as told; a seed makes the same list every time."""

import random

from tests.told import GREATEST, NAMES

# How often each call comes, against 1 for the others.
WEIGHTS = {"begin": 0.15, "box": 7, "place": 2, "may": 1.5, "way": 3, "lay": 2.5, "keep": 1.5, "back": 0.7}


class Maker:
    def __init__(self, seed):
        self.chance = random.Random(seed)
        self.size = [self.chance.randint(1, 5), self.chance.randint(1, 5), self.chance.randint(1, 3)]
        # Few slots are asked for in lists that make few boxes.
        self.slots = self.chance.choice((3, 6, 16))
        # Thin boxes leave room for ways that go round them.
        self.thinness = self.chance.choice((0, 0.6, 0.9))

    def number(self, below):
        """Mostly below; now and then at the edge, just above it, or far off."""
        if self.chance.random() < 0.02:
            return self.chance.choice((below, below + 1, GREATEST))
        return self.chance.randrange(below)

    def slot(self):
        return self.number(self.slots)

    def cell(self):
        return [self.number(side) for side in self.size]

    def ends(self, side):
        one = self.number(side)
        return [one, one] if self.chance.random() < self.thinness else sorted((one, self.number(side)))

    def box(self):
        ends = [self.ends(side) for side in self.size]
        if self.chance.random() < 0.04:
            ends[self.chance.randrange(3)].reverse()
        return [self.number(4)] + [end[0] for end in ends] + [end[1] for end in ends]

    def arguments(self, name):
        if name == "begin":
            return list(self.size) if self.chance.random() < 0.8 else [self.number(6) for side in range(3)]
        if name == "box":
            return self.box()
        if name in ("drop", "hits", "through", "look"):
            return [self.slot()]
        if name == "place":
            return [self.slot()] + self.cell()
        if name == "at":
            return self.cell()
        if name in ("common", "away"):
            return [self.slot(), self.slot()]
        if name in ("may", "far"):
            return [self.number(4), self.number(4), self.number(2 if name == "may" else 6)]
        if name in ("way", "lay"):
            return [self.number(4)] + self.cell() + self.cell()
        if name == "volume":
            return [self.number(4)]
        return []

    def draw(self, names, count):
        chosen = self.chance.choices(names, [WEIGHTS.get(name, 1) for name in names], k=count)
        return [(name, *self.arguments(name)) for name in chosen]

    def calls(self):
        """A list as long as one may be."""
        if self.chance.random() < 0.1:
            return self.draw(NAMES, 60)
        return [("begin", *self.size)] + self.draw(NAMES, 59)

    def plan(self, count):
        """A begin that's answered 0, and calls that change the boxes or what their kinds may."""
        names = ("box", "drop", "place", "may", "lay")
        return [("begin", *self.size)] + self.draw(names, count)
