"""clashes, common, hits, at, near, away, through and volume (point 3)."""

import unittest

from tests.told import GREATEST, last, told

HOUSE = ("begin", 5, 5, 3)
CELL = ("box", 0, 0, 0, 0, 0, 0, 0)
FULL = [HOUSE] + [CELL] * 16


def cell_at(kind, x, y, z):
    return ("box", kind, x, y, z, x, y, z)


class Clashes(unittest.TestCase):
    def test_none(self):
        self.assertEqual(told(HOUSE, ("clashes",), CELL, ("clashes",)), [[0], [0], [0], [0]])

    def test_rising_by_the_first_slot_then_the_second(self):
        found = last(HOUSE, ("box", 0, 0, 0, 0, 4, 4, 2), cell_at(1, 0, 0, 0), cell_at(1, 1, 0, 0),
                     cell_at(2, 0, 0, 0), ("clashes",))
        self.assertEqual(found, [4, 0, 1, 0, 2, 0, 3, 1, 3])

    def test_all_pairs_of_all_slots(self):
        pairs = [(a, b) for a in range(16) for b in range(a + 1, 16)]
        self.assertEqual(last(*FULL, ("clashes",)), [120] + [slot for pair in pairs for slot in pair])

    def test_just_touching_is_no_clash(self):
        box = ("box", 0, 1, 1, 0, 2, 2, 0)
        for other in ((3, 1, 0), (0, 2, 0), (1, 3, 0), (2, 0, 0), (1, 1, 1), (3, 3, 0), (0, 0, 1)):
            self.assertEqual(last(HOUSE, box, cell_at(0, *other), ("clashes",)), [0], other)
        for other in ((1, 1, 0), (2, 1, 0), (1, 2, 0), (2, 2, 0)):
            self.assertEqual(last(HOUSE, box, cell_at(0, *other), ("clashes",)), [1, 0, 1], other)

    def test_an_empty_slot_between(self):
        found = told(HOUSE, CELL, CELL, CELL, ("drop", 1), ("clashes",), ("drop", 0), ("clashes",))
        self.assertEqual(found[5:], [[1, 0, 2], [0], [0]])

    def test_it_goes_with_what_is_moved(self):
        found = told(HOUSE, CELL, cell_at(0, 1, 0, 0), ("clashes",), ("place", 1, 0, 0, 0), ("clashes",),
                     ("place", 0, 4, 4, 2), ("clashes",))
        self.assertEqual(found[3:], [[0], [0], [1, 0, 1], [0], [0]])

    def test_boxes_that_cross(self):
        found = last(HOUSE, ("box", 0, 0, 2, 1, 4, 2, 1), ("box", 1, 2, 0, 1, 2, 4, 1), ("box", 2, 2, 2, 0, 2, 2, 2),
                     ("clashes",))
        self.assertEqual(found, [3, 0, 1, 0, 2, 1, 2])

    def test_a_house_of_one_cell(self):
        self.assertEqual(last(("begin", 1, 1, 1), CELL, CELL, ("clashes",)), [1, 0, 1])


class Common(unittest.TestCase):
    def test_how_many_cells(self):
        boxes = (HOUSE, ("box", 0, 0, 0, 0, 2, 3, 1), ("box", 1, 1, 1, 1, 4, 2, 2), ("box", 2, 3, 0, 0, 4, 4, 0))
        self.assertEqual(last(*boxes, ("common", 0, 1)), [4])
        self.assertEqual(last(*boxes, ("common", 1, 0)), [4])
        self.assertEqual(last(*boxes, ("common", 0, 2)), [0])
        self.assertEqual(last(*boxes, ("common", 1, 2)), [0])

    def test_with_itself(self):
        self.assertEqual(last(HOUSE, ("box", 0, 0, 0, 0, 2, 3, 1), ("common", 0, 0)), [24])

    def test_apart_on_two_axes(self):
        # Two gaps multiplied must not come out above 0.
        found = last(HOUSE, cell_at(0, 0, 0, 0), cell_at(0, 4, 4, 0), ("common", 0, 1))
        self.assertEqual(found, [0])

    def test_what_may_go_through_is_shared_too(self):
        self.assertEqual(last(HOUSE, CELL, CELL, ("may", 0, 0, 1), ("common", 0, 1)), [1])

    def test_no_such_box(self):
        for slot in (1, 15, 16, GREATEST):
            self.assertEqual(last(HOUSE, CELL, ("common", 0, slot)), [-2])
            self.assertEqual(last(HOUSE, CELL, ("common", slot, 0)), [-2])
            self.assertEqual(last(HOUSE, CELL, ("common", slot, slot)), [-2])
        self.assertEqual(last(*FULL, ("common", 0, 16)), [-2])
        self.assertEqual(last(*FULL, ("common", 16, 0)), [-2])

    def test_the_last_slot(self):
        self.assertEqual(last(*FULL, ("common", 15, 14)), [1])


class Hits(unittest.TestCase):
    def test_the_others_rising(self):
        boxes = (HOUSE, cell_at(1, 0, 0, 0), cell_at(1, 4, 4, 2), ("box", 0, 0, 0, 0, 4, 4, 2), cell_at(2, 3, 3, 1),
                 cell_at(3, 2, 2, 2), ("may", 0, 3, 1))
        self.assertEqual(last(*boxes, ("hits", 2)), [3, 0, 1, 3])
        self.assertEqual(last(*boxes, ("hits", 0)), [1, 2])
        self.assertEqual(last(*boxes, ("hits", 4)), [0])

    def test_not_itself(self):
        self.assertEqual(last(HOUSE, CELL, ("hits", 0)), [0])

    def test_an_empty_slot_between(self):
        self.assertEqual(last(HOUSE, CELL, CELL, CELL, ("drop", 1), ("hits", 2)), [1, 0])

    def test_the_last_slot(self):
        self.assertEqual(last(*FULL, ("hits", 15)), [15] + list(range(15)))
        self.assertEqual(last(*FULL, ("hits", 0)), [15] + list(range(1, 16)))

    def test_no_such_box(self):
        for slot in (1, 15, 16, GREATEST):
            self.assertEqual(last(HOUSE, CELL, ("hits", slot)), [-2])
        self.assertEqual(last(*FULL, ("hits", 16)), [-2])
        self.assertEqual(last(HOUSE, CELL, CELL, CELL, ("drop", 1), ("hits", 1)), [-2])


class At(unittest.TestCase):
    def test_the_boxes_rising(self):
        boxes = (HOUSE, ("box", 3, 0, 0, 0, 4, 4, 0), cell_at(0, 1, 1, 1), ("box", 2, 2, 2, 0, 3, 3, 2),
                 cell_at(2, 2, 2, 0), ("may", 2, 3, 1))
        self.assertEqual(last(*boxes, ("at", 2, 2, 0)), [3, 0, 2, 3])
        self.assertEqual(last(*boxes, ("at", 1, 1, 1)), [1, 1])
        self.assertEqual(last(*boxes, ("at", 0, 0, 2)), [0])

    def test_the_last_slot(self):
        self.assertEqual(last(*FULL, ("at", 0, 0, 0)), [16] + list(range(16)))

    def test_an_empty_slot_between(self):
        self.assertEqual(last(HOUSE, CELL, CELL, CELL, ("drop", 1), ("at", 0, 0, 0)), [2, 0, 2])

    def test_no_such_cell(self):
        for cell in ((5, 0, 0), (0, 5, 0), (0, 0, 3), (GREATEST, 0, 0), (0, GREATEST, 0), (0, 0, GREATEST),
                     (GREATEST,) * 3):
            self.assertEqual(last(HOUSE, CELL, ("at",) + cell), [-2], cell)

    def test_a_house_of_one_cell(self):
        self.assertEqual(told(("begin", 1, 1, 1), CELL, ("at", 0, 0, 0), ("at", 1, 0, 0)), [[0], [0], [1, 0], [-2]])


class Near(unittest.TestCase):
    def test_none_told(self):
        self.assertEqual(told(HOUSE, ("near",), CELL, CELL, ("near",)), [[0], [0], [0], [1], [0]])

    def test_none_told_and_much_shared(self):
        whole = ("box", 0, 0, 0, 0, 4, 4, 2)
        self.assertEqual(last(HOUSE, whole, whole, ("near",)), [0])
        self.assertEqual(last(HOUSE, whole, whole, ("far", 0, 0, 1), ("near",)), [1, 0, 1])

    def test_less_far_away_than_told(self):
        for gap in range(5):
            for n in range(6):
                for end in ((gap, 0, 0), (0, gap, 0), (gap, gap, 0)):
                    found = last(HOUSE, CELL, cell_at(1, *end), ("far", 0, 1, n), ("near",))
                    self.assertEqual(found, [1, 0, 1] if gap < n else [0], (end, n))

    def test_the_greatest_of_the_three(self):
        boxes = (HOUSE, CELL, cell_at(1, 1, 4, 2))
        self.assertEqual(last(*boxes, ("far", 0, 1, 4), ("near",)), [0])
        self.assertEqual(last(*boxes, ("far", 0, 1, 5), ("near",)), [1, 0, 1])

    def test_along_z(self):
        boxes = (HOUSE, cell_at(1, 0, 0, 2), CELL)
        self.assertEqual(last(*boxes, ("far", 0, 1, 2), ("near",)), [0])
        self.assertEqual(last(*boxes, ("far", 0, 1, 3), ("near",)), [1, 0, 1])

    def test_from_the_nearest_cells(self):
        boxes = (HOUSE, ("box", 0, 0, 0, 0, 1, 4, 2), ("box", 1, 4, 1, 1, 4, 2, 1))
        self.assertEqual(last(*boxes, ("far", 0, 1, 3), ("near",)), [0])
        self.assertEqual(last(*boxes, ("far", 1, 0, 4), ("near",)), [1, 0, 1])

    def test_touching_and_sharing(self):
        self.assertEqual(last(HOUSE, CELL, cell_at(0, 1, 1, 1), ("far", 0, 0, 1), ("near",)), [0])
        self.assertEqual(last(HOUSE, CELL, cell_at(0, 1, 1, 1), ("far", 0, 0, 2), ("near",)), [1, 0, 1])
        self.assertEqual(last(HOUSE, CELL, CELL, ("far", 0, 0, 1), ("near",)), [1, 0, 1])

    def test_what_may_go_through_may_still_be_too_near(self):
        self.assertEqual(last(HOUSE, CELL, CELL, ("may", 0, 0, 1), ("far", 0, 0, 1), ("near",)), [1, 0, 1])

    def test_pairs_rising(self):
        found = last(HOUSE, CELL, cell_at(1, 1, 0, 0), cell_at(2, 2, 0, 0), cell_at(1, 3, 0, 0),
                     ("far", 1, 0, 4), ("far", 1, 1, 3), ("near",))
        self.assertEqual(found, [3, 0, 1, 0, 3, 1, 3])

    def test_all_pairs_of_all_slots(self):
        pairs = [(a, b) for a in range(16) for b in range(a + 1, 16)]
        found = last(*FULL, ("far", 0, 0, 5), ("near",))
        self.assertEqual(found, [120] + [slot for pair in pairs for slot in pair])

    def test_told_back_to_0(self):
        self.assertEqual(last(HOUSE, CELL, CELL, ("far", 0, 0, 5), ("far", 0, 0, 0), ("near",)), [0])


class Away(unittest.TestCase):
    def test_the_greatest_of_the_three(self):
        for end in ((0, 0, 0), (1, 0, 0), (1, 1, 1), (3, 1, 2), (1, 3, 2), (1, 1, 2), (0, 0, 2), (4, 4, 2), (0, 4, 0)):
            boxes = (HOUSE, CELL, cell_at(1, *end))
            self.assertEqual(told(*boxes, ("away", 0, 1), ("away", 1, 0))[3:], [[max(end)], [max(end)]], end)

    def test_from_the_nearest_cells(self):
        boxes = (HOUSE, ("box", 0, 0, 0, 0, 1, 4, 2), ("box", 1, 4, 1, 1, 4, 2, 1), ("box", 1, 0, 0, 0, 4, 0, 0))
        self.assertEqual(told(*boxes, ("away", 0, 1), ("away", 1, 2), ("away", 0, 2))[4:], [[3], [1], [0]])

    def test_touching_at_a_side_an_edge_and_a_corner(self):
        for other in ((3, 1, 0), (0, 2, 0), (1, 3, 0), (2, 0, 0), (1, 1, 1), (3, 3, 0), (0, 0, 1)):
            self.assertEqual(last(HOUSE, ("box", 0, 1, 1, 0, 2, 2, 0), cell_at(0, *other), ("away", 0, 1)), [1], other)

    def test_one_within_the_other(self):
        boxes = (HOUSE, ("box", 0, 0, 0, 0, 4, 4, 2), cell_at(1, 2, 2, 1))
        self.assertEqual(told(*boxes, ("away", 0, 1), ("away", 1, 0))[3:], [[0], [0]])

    def test_from_itself(self):
        self.assertEqual(last(HOUSE, ("box", 0, 1, 1, 1, 3, 3, 2), ("away", 0, 0)), [0])
        self.assertEqual(last(*FULL, ("away", 15, 15)), [0])

    def test_no_such_box(self):
        for slot in (1, 15, 16, GREATEST):
            self.assertEqual(last(HOUSE, CELL, ("away", 0, slot)), [-2])
            self.assertEqual(last(HOUSE, CELL, ("away", slot, 0)), [-2])
            self.assertEqual(last(HOUSE, CELL, ("away", slot, slot)), [-2])
        self.assertEqual(last(HOUSE, CELL, CELL, CELL, ("drop", 1), ("away", 0, 1)), [-2])


class Through(unittest.TestCase):
    def test_those_that_may_with_how_many_cells(self):
        boxes = (HOUSE, ("box", 1, 0, 0, 0, 0, 3, 0), ("box", 0, 0, 0, 0, 4, 1, 1), ("box", 2, 1, 1, 0, 2, 2, 2),
                 ("box", 3, 0, 0, 0, 4, 4, 2), ("box", 1, 0, 3, 0, 4, 4, 2), ("may", 0, 1, 1), ("may", 3, 0, 1))
        self.assertEqual(told(*boxes, *[("through", slot) for slot in range(5)])[8:],
                         [[1, 1, 2], [2, 0, 2, 3, 20], [0], [1, 1, 20], [0]])

    def test_not_itself(self):
        self.assertEqual(last(HOUSE, CELL, ("may", 0, 0, 1), ("through", 0)), [0])

    def test_a_kind_and_its_like(self):
        self.assertEqual(last(HOUSE, CELL, CELL, ("through", 0)), [0])
        self.assertEqual(told(HOUSE, CELL, CELL, ("may", 0, 0, 1), ("through", 0), ("through", 1), ("hits", 0))[4:],
                         [[1, 1, 1], [1, 0, 1], [0]])

    def test_just_touching(self):
        self.assertEqual(last(HOUSE, CELL, cell_at(0, 1, 0, 0), ("may", 0, 0, 1), ("through", 0)), [0])

    def test_an_empty_slot_between_and_the_last_one(self):
        found = told(*FULL, ("may", 0, 0, 1), ("drop", 3), ("through", 15), ("through", 0))
        self.assertEqual(found[19], [14] + [number for slot in range(15) if slot != 3 for number in (slot, 1)])
        self.assertEqual(found[20], [14] + [number for slot in range(1, 16) if slot != 3 for number in (slot, 1)])

    def test_no_such_box(self):
        for slot in (1, 15, 16, GREATEST):
            self.assertEqual(last(HOUSE, CELL, ("through", slot)), [-2])
        self.assertEqual(last(HOUSE, CELL, CELL, CELL, ("drop", 1), ("through", 1)), [-2])


class Volume(unittest.TestCase):
    def test_of_each_kind(self):
        boxes = (HOUSE, ("box", 0, 0, 0, 0, 4, 3, 2), ("box", 1, 0, 0, 0, 1, 1, 0), cell_at(1, 4, 4, 2),
                 ("box", 3, 2, 2, 2, 2, 4, 2))
        self.assertEqual(told(*boxes, *[("volume", kind) for kind in range(4)])[5:], [[60], [5], [0], [3]])

    def test_a_cell_of_two_counts_twice(self):
        self.assertEqual(last(HOUSE, CELL, CELL, ("volume", 0)), [2])
        whole = ("box", 2, 0, 0, 0, 4, 4, 2)
        self.assertEqual(last(HOUSE, *[whole] * 16, ("volume", 2)), [1200])

    def test_it_goes_with_what_is_dropped(self):
        self.assertEqual(last(HOUSE, CELL, ("box", 0, 0, 0, 0, 1, 1, 1), CELL, ("drop", 1), ("volume", 0)), [2])

    def test_no_boxes(self):
        self.assertEqual(last(HOUSE, ("volume", 3)), [0])

    def test_no_such_kind(self):
        for kind in (4, 5, 256, GREATEST):
            self.assertEqual(last(HOUSE, CELL, ("volume", kind)), [-22])


if __name__ == "__main__":
    unittest.main()
