"""may and far (point 2)."""

import unittest

from tests.told import GREATEST, last, told

HOUSE = ("begin", 5, 4, 3)


def cell_of(kind):
    return ("box", kind, 0, 0, 0, 0, 0, 0)


class May(unittest.TestCase):
    def test_it_answers_what_it_was(self):
        self.assertEqual(
            told(HOUSE, ("may", 0, 1, 1), ("may", 0, 1, 1), ("may", 0, 1, 0), ("may", 0, 1, 0), ("may", 0, 1, 1)),
            [[0], [0], [1], [1], [0], [0]])

    def test_both_ways_alike(self):
        self.assertEqual(told(HOUSE, ("may", 0, 3, 1), ("may", 3, 0, 0), ("may", 0, 3, 0)), [[0], [0], [1], [0]])
        self.assertEqual(told(HOUSE, ("may", 3, 0, 1), ("may", 0, 3, 0), ("may", 3, 0, 0)), [[0], [0], [1], [0]])

    def test_each_pair_by_itself(self):
        pairs = [(k, l) for k in range(4) for l in range(k, 4)]
        for pair in pairs:
            asked = told(HOUSE, ("may",) + pair + (1,), *[("may",) + other + (0,) for other in pairs])[2:]
            self.assertEqual(asked, [[1 if other == pair else 0] for other in pairs], pair)

    def test_what_may_go_through_does_not_clash(self):
        for k in range(4):
            for l in range(4):
                boxes = (HOUSE, cell_of(k), cell_of(l))
                self.assertEqual(last(*boxes, ("clashes",)), [1, 0, 1])
                self.assertEqual(last(*boxes, ("may", k, l, 1), ("clashes",)), [0])
                self.assertEqual(last(*boxes, ("may", l, k, 1), ("clashes",)), [0])
                self.assertEqual(last(*boxes, ("may", k, l, 1), ("may", l, k, 0), ("clashes",)), [1, 0, 1])

    def test_through_its_like(self):
        found = told(HOUSE, cell_of(1), cell_of(1), cell_of(2), cell_of(2), ("may", 1, 1, 1), ("clashes",))
        self.assertEqual(found[-1], [5, 0, 2, 0, 3, 1, 2, 1, 3, 2, 3])

    def test_it_goes_by_pairs_and_no_further(self):
        found = told(HOUSE, cell_of(0), cell_of(1), cell_of(2), ("may", 0, 1, 1), ("may", 1, 2, 1), ("clashes",))
        self.assertEqual(found[-1], [1, 0, 2])

    def test_not_as_told(self):
        for call in ((4, 0, 1), (0, 4, 1), (0, 0, 2), (GREATEST, 0, 0), (0, GREATEST, 0), (0, 0, GREATEST), (4, 4, 2)):
            self.assertEqual(last(HOUSE, ("may",) + call), [-22], call)
        self.assertEqual(last(HOUSE, ("may", 3, 3, 1)), [0])

    def test_refused_it_changes_nothing(self):
        self.assertEqual(told(HOUSE, ("may", 3, 0, 1), ("may", 3, 0, 2), ("may", 0, 3, 1)), [[0], [0], [-22], [1]])
        self.assertEqual(told(HOUSE, ("may", 3, 0, 2), ("may", 0, 3, 1)), [[0], [-22], [0]])


class Far(unittest.TestCase):
    def test_it_answers_what_it_was(self):
        self.assertEqual(told(HOUSE, *[("far", 1, 2, n) for n in (5, 4, 3, 2, 1, 0, 0)]),
                         [[0], [0], [5], [4], [3], [2], [1], [0]])

    def test_both_ways_alike(self):
        self.assertEqual(told(HOUSE, ("far", 0, 3, 2), ("far", 3, 0, 5), ("far", 0, 3, 0)), [[0], [0], [2], [5]])
        self.assertEqual(told(HOUSE, ("far", 3, 0, 2), ("far", 0, 3, 5), ("far", 3, 0, 0)), [[0], [0], [2], [5]])

    def test_each_pair_by_itself(self):
        pairs = [(k, l) for k in range(4) for l in range(k, 4)]
        for pair in pairs:
            asked = told(HOUSE, ("far",) + pair + (4,), *[("far",) + other + (0,) for other in pairs])[2:]
            self.assertEqual(asked, [[4 if other == pair else 0] for other in pairs], pair)

    def test_may_and_far_do_not_mix(self):
        self.assertEqual(told(HOUSE, ("may", 1, 2, 1), ("far", 1, 2, 3), ("may", 1, 2, 1), ("far", 1, 2, 3)),
                         [[0], [0], [0], [1], [3]])

    def test_not_as_told(self):
        for call in ((4, 0, 1), (0, 4, 1), (0, 0, 6), (GREATEST, 0, 0), (0, GREATEST, 0), (0, 0, GREATEST), (4, 4, 6)):
            self.assertEqual(last(HOUSE, ("far",) + call), [-22], call)
        for n in range(6):
            self.assertEqual(last(HOUSE, ("far", 3, 3, n)), [0])

    def test_refused_it_changes_nothing(self):
        self.assertEqual(told(HOUSE, ("far", 3, 0, 5), ("far", 3, 0, 6), ("far", 0, 3, 1)), [[0], [0], [-22], [5]])
        self.assertEqual(told(HOUSE, ("far", 3, 0, 6), ("far", 0, 3, 1)), [[0], [-22], [0]])


if __name__ == "__main__":
    unittest.main()
