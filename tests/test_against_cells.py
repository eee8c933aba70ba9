"""Many lists of calls, answered by the program and by a slow model that goes cell by cell."""

import itertools
import random
import unittest

from tests.told import GREATEST, LANDED, told

LISTS = 1500


def cells_between(first, end):
    return set(itertools.product(*[range(low, high + 1) for low, high in zip(first, end)]))


class Model:
    """Boxes as sets of cells; what kinds may, and must, as dicts asked both ways."""

    def __init__(self):
        self.house = None

    def answer(self, call):
        if call[0] != "begin" and self.house is None:
            return [-11]
        return getattr(self, call[0])(*call[1:])

    def begin(self, w, d, h):
        if w not in range(1, 6) or d not in range(1, 6) or h not in range(1, 4):
            return [-22]
        self.house = cells_between((0, 0, 0), (w - 1, d - 1, h - 1))
        self.boxes = {}
        self.through = {}
        self.least = {}
        return [0]

    def box(self, kind, x0, y0, z0, x1, y1, z1):
        first, end = (x0, y0, z0), (x1, y1, z1)
        if kind > 3 or first not in self.house or end not in self.house:
            return [-22]
        cells = cells_between(first, end)
        if first not in cells:
            return [-22]
        empty = [slot for slot in range(16) if slot not in self.boxes]
        if not empty:
            return [-28]
        self.boxes[empty[0]] = (kind, cells)
        return [empty[0]]

    def drop(self, b):
        if b not in self.boxes:
            return [-2]
        del self.boxes[b]
        return [0]

    def place(self, b, x, y, z):
        if b not in self.boxes:
            return [-2]
        kind, cells = self.boxes[b]
        first = min(cells)
        there = {tuple(n - f + t for n, f, t in zip(cell, first, (x, y, z))) for cell in cells}
        if not there <= self.house:
            return [-22]
        self.boxes[b] = (kind, there)
        return [0]

    def may(self, k, l, on):
        if k > 3 or l > 3 or on > 1:
            return [-22]
        was = self.through.get((k, l), 0)
        self.through[k, l] = self.through[l, k] = on
        return [was]

    def far(self, k, l, n):
        if k > 3 or l > 3 or n > 5:
            return [-22]
        was = self.least.get((k, l), 0)
        self.least[k, l] = self.least[l, k] = n
        return [was]

    def is_clash(self, a, b):
        (k, cells), (l, others) = self.boxes[a], self.boxes[b]
        return bool(cells & others) and not self.through.get((k, l), 0)

    def is_near(self, a, b):
        (k, cells), (l, others) = self.boxes[a], self.boxes[b]
        steps = max(min(abs(c[axis] - o[axis]) for c in cells for o in others) for axis in range(3))
        return steps < self.least.get((k, l), 0)

    def pairs(self, asked):
        found = [pair for pair in itertools.combinations(sorted(self.boxes), 2) if asked(*pair)]
        return [len(found)] + [slot for pair in found for slot in pair]

    def clashes(self):
        return self.pairs(self.is_clash)

    def near(self):
        return self.pairs(self.is_near)

    def common(self, a, b):
        if a not in self.boxes or b not in self.boxes:
            return [-2]
        return [len(self.boxes[a][1] & self.boxes[b][1])]

    def hits(self, b):
        if b not in self.boxes:
            return [-2]
        found = [other for other in sorted(self.boxes) if other != b and self.is_clash(b, other)]
        return [len(found)] + found

    def at(self, x, y, z):
        if (x, y, z) not in self.house:
            return [-2]
        found = [slot for slot in sorted(self.boxes) if (x, y, z) in self.boxes[slot][1]]
        return [len(found)] + found


class Maker:
    """Calls that are mostly as told; the seed makes each list the same every time."""

    def __init__(self, seed):
        self.chance = random.Random(seed)
        self.size = [self.chance.randint(1, 5), self.chance.randint(1, 5), self.chance.randint(1, 3)]
        # Few slots are asked for in lists that make few boxes.
        self.slots = self.chance.choice((3, 6, 16))

    def number(self, below):
        """Mostly below; now and then at the edge, just above it, or far off."""
        if self.chance.random() < 0.04:
            return self.chance.choice((below, below + 1, GREATEST))
        return self.chance.randrange(below)

    def cell(self):
        return [self.number(side) for side in self.size]

    def box(self):
        ends = [sorted((self.number(side), self.number(side))) for side in self.size]
        if self.chance.random() < 0.04:
            ends[self.chance.randrange(3)].reverse()
        return [self.number(4)] + [end[0] for end in ends] + [end[1] for end in ends]

    def arguments(self, name):
        if name == "begin":
            return list(self.size) if self.chance.random() < 0.8 else [self.number(6) for side in range(3)]
        if name == "box":
            return self.box()
        if name in ("drop", "hits"):
            return [self.number(self.slots)]
        if name == "place":
            return [self.number(self.slots)] + self.cell()
        if name == "at":
            return self.cell()
        if name == "common":
            return [self.number(self.slots), self.number(self.slots)]
        if name in ("may", "far"):
            return [self.number(4), self.number(4), self.number(2 if name == "may" else 6)]
        return []

    def calls(self):
        weights = {"begin": 0.15, "box": 6, "place": 2}
        chosen = self.chance.choices(LANDED, [weights.get(name, 1) for name in LANDED], k=59)
        start = [] if self.chance.random() < 0.1 else ["begin"]
        return [(name, *self.arguments(name)) for name in start + chosen]


class AgainstCells(unittest.TestCase):
    def test_many_lists(self):
        for seed in range(LISTS):
            calls = Maker(seed).calls()
            model = Model()
            expected = [model.answer(call) for call in calls]
            for place, (call, was, asked) in enumerate(zip(calls, told(*calls), expected)):
                self.assertEqual(was, asked, f"seed {seed}, call {place}: {call}")

    def test_the_lists_reach_every_answer(self):
        seen = set()
        for seed in range(LISTS):
            calls = Maker(seed).calls()
            for call, answer in zip(calls, told(*calls)):
                seen.add((call[0], min(answer[0], 0)))
        asked = {
            "begin": (0, -22), "box": (0, -11, -22, -28), "drop": (0, -11, -2), "place": (0, -11, -2, -22),
            "may": (0, -11, -22), "far": (0, -11, -22), "clashes": (0, -11), "common": (0, -11, -2),
            "hits": (0, -11, -2), "at": (0, -11, -2), "near": (0, -11),
        }
        self.assertEqual(seen, {(name, number) for name in asked for number in asked[name]})


if __name__ == "__main__":
    unittest.main()
