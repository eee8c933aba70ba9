"""box, drop and place (point 1)."""

import unittest

from tests.told import GREATEST, last, told

HOUSE = ("begin", 5, 4, 3)
CELL = ("box", 0, 0, 0, 0, 0, 0, 0)


class NewBox(unittest.TestCase):
    def test_slots_in_order(self):
        self.assertEqual(told(HOUSE, *[CELL] * 16), [[0]] + [[slot] for slot in range(16)])

    def test_sixteen_and_no_more(self):
        found = told(HOUSE, *[CELL] * 17, CELL)
        self.assertEqual(found[16:], [[15], [-28], [-28]])

    def test_full_it_changes_nothing(self):
        found = told(HOUSE, *[CELL] * 16, ("box", 1, 1, 1, 1, 2, 2, 2), ("at", 1, 1, 1), ("at", 0, 0, 0))
        self.assertEqual(found[17:], [[-28], [0], [16] + list(range(16))])

    def test_both_ends_are_in_it(self):
        inside = [(x, y, z) for x in range(5) for y in range(4) for z in range(3)]
        found = told(HOUSE, ("box", 3, 1, 1, 1, 3, 2, 2), *[("at",) + cell for cell in inside[:30]])
        found += told(HOUSE, ("box", 3, 1, 1, 1, 3, 2, 2), *[("at",) + cell for cell in inside[30:]])[2:]
        for cell, answer in zip(inside, found[2:]):
            is_in = 1 <= cell[0] <= 3 and 1 <= cell[1] <= 2 and 1 <= cell[2] <= 2
            self.assertEqual(answer, [1, 0] if is_in else [0], cell)

    def test_the_whole_house(self):
        self.assertEqual(told(HOUSE, ("box", 0, 0, 0, 0, 4, 3, 2), ("common", 0, 0)), [[0], [0], [60]])

    def test_kinds(self):
        for kind in range(4):
            self.assertEqual(last(HOUSE, ("box", kind, 0, 0, 0, 0, 0, 0)), [0])
        for kind in (4, 5, 255, 256, GREATEST):
            self.assertEqual(last(HOUSE, ("box", kind, 0, 0, 0, 0, 0, 0)), [-22])

    def test_fellows_alike_or_the_wrong_way_round(self):
        self.assertEqual(last(HOUSE, ("box", 0, 4, 3, 2, 4, 3, 2)), [0])
        for numbers in ((3, 1, 1, 2, 1, 1), (1, 3, 1, 1, 2, 1), (1, 1, 2, 1, 1, 1), (4, 3, 2, 0, 0, 0)):
            self.assertEqual(last(HOUSE, ("box", 0) + numbers), [-22], numbers)

    def test_just_outside(self):
        for end in ((5, 3, 2), (4, 4, 2), (4, 3, 3)):
            self.assertEqual(last(HOUSE, ("box", 0, 0, 0, 0) + end), [-22], end)
            self.assertEqual(last(HOUSE, ("box", 0) + end + end), [-22], end)

    def test_great_numbers(self):
        for place in range(1, 7):
            numbers = [0] * 7
            numbers[place] = GREATEST
            self.assertEqual(last(HOUSE, ("box", *numbers)), [-22], numbers)
        self.assertEqual(last(HOUSE, ("box",) + (GREATEST,) * 7), [-22])

    def test_refused_it_changes_nothing(self):
        self.assertEqual(
            told(HOUSE, ("box", 4, 0, 0, 0, 0, 0, 0), ("box", 0, 1, 0, 0, 0, 0, 0), ("box", 0, 0, 0, 0, 5, 0, 0),
                 ("at", 0, 0, 0), CELL),
            [[0], [-22], [-22], [-22], [0], [0]])

    def test_not_as_told_comes_ahead_of_no_slot(self):
        full = [HOUSE] + [CELL] * 16
        self.assertEqual(last(*full, ("box", 4, 0, 0, 0, 0, 0, 0)), [-22])
        self.assertEqual(last(*full, ("box", 0, 1, 0, 0, 0, 0, 0)), [-22])
        self.assertEqual(last(*full, ("box", 0, 0, 0, 0, 0, 0, 3)), [-22])

    def test_it_may_clash(self):
        self.assertEqual(told(HOUSE, CELL, CELL, ("clashes",)), [[0], [0], [1], [1, 0, 1]])

    def test_a_house_of_one_cell(self):
        self.assertEqual(
            told(("begin", 1, 1, 1), CELL, ("box", 0, 0, 0, 0, 1, 0, 0), ("box", 0, 0, 0, 0, 0, 1, 0),
                 ("box", 0, 0, 0, 0, 0, 0, 1), CELL),
            [[0], [0], [-22], [-22], [-22], [1]])


class Drop(unittest.TestCase):
    def test_a_slot_between_others_is_filled_first(self):
        self.assertEqual(
            told(HOUSE, CELL, CELL, CELL, CELL, ("drop", 1), ("drop", 2), ("at", 0, 0, 0), CELL, CELL, CELL),
            [[0], [0], [1], [2], [3], [0], [0], [2, 0, 3], [1], [2], [4]])

    def test_the_last_slot(self):
        found = told(HOUSE, *[CELL] * 16, ("drop", 15), ("drop", 15), CELL, CELL)
        self.assertEqual(found[17:], [[0], [-2], [15], [-28]])

    def test_a_slot_without_a_box(self):
        self.assertEqual(told(HOUSE, ("drop", 0), CELL, ("drop", 0), ("drop", 0)), [[0], [-2], [0], [0], [-2]])

    def test_no_such_slot(self):
        full = [HOUSE] + [CELL] * 16
        for slot in (16, 17, 32, 4294967280, GREATEST):
            self.assertEqual(told(*full, ("drop", slot), ("at", 0, 0, 0))[17:], [[-2], [16] + list(range(16))], slot)


class Place(unittest.TestCase):
    def test_it_moves_all_of_the_box(self):
        found = told(HOUSE, ("box", 0, 0, 0, 0, 1, 2, 1), ("box", 1, 3, 1, 1, 4, 3, 2), ("common", 0, 1),
                     ("place", 0, 3, 1, 1), ("common", 0, 1), ("at", 0, 0, 0), ("at", 4, 3, 2), ("common", 0, 0))
        self.assertEqual(found, [[0], [0], [1], [0], [0], [12], [0], [2, 0, 1], [12]])

    def test_it_moves_back_and_on_each_axis_by_itself(self):
        for target in ((0, 2, 1), (2, 0, 1), (2, 2, 0), (4, 2, 1), (2, 3, 1), (2, 2, 2), (2, 2, 1)):
            found = told(HOUSE, ("box", 0, 2, 2, 1, 2, 2, 1), ("place", 0) + target, ("at",) + target, ("at", 2, 2, 1))
            still = [1, 0] if target == (2, 2, 1) else [0]
            self.assertEqual(found[2:], [[0], [1, 0], still], target)

    def test_it_keeps_the_kind_and_the_slot(self):
        found = told(HOUSE, ("may", 2, 3, 1), CELL, ("box", 3, 1, 1, 1, 1, 1, 1), ("box", 2, 0, 0, 0, 0, 0, 0),
                     ("place", 1, 0, 0, 0), ("hits", 1), ("hits", 2), CELL)
        self.assertEqual(found[5:], [[0], [1, 0], [1, 0], [3]])

    def test_other_boxes_stay(self):
        found = told(HOUSE, CELL, CELL, ("place", 0, 4, 3, 2), ("at", 0, 0, 0), ("at", 4, 3, 2))
        self.assertEqual(found[3:], [[0], [1, 1], [1, 0]])

    def test_up_to_the_walls_and_not_through(self):
        box = ("box", 0, 0, 0, 0, 1, 1, 1)
        self.assertEqual(told(HOUSE, box, ("place", 0, 3, 2, 1), ("at", 4, 3, 2))[2:], [[0], [1, 0]])
        for cell in ((4, 2, 1), (3, 3, 1), (3, 2, 2)):
            self.assertEqual(told(HOUSE, box, ("place", 0) + cell, ("at", 0, 0, 0))[2:], [[-22], [1, 0]], cell)

    def test_a_first_cell_outside(self):
        for cell in ((5, 0, 0), (0, 4, 0), (0, 0, 3), (GREATEST, 0, 0), (0, GREATEST, 0), (0, 0, GREATEST),
                     (GREATEST,) * 3):
            self.assertEqual(told(HOUSE, CELL, ("place", 0) + cell, ("at", 0, 0, 0))[2:], [[-22], [1, 0]], cell)

    def test_no_such_box_comes_first(self):
        for slot in (0, 2, 15, 16, GREATEST):
            self.assertEqual(last(HOUSE, CELL, ("drop", 0), CELL, CELL, ("drop", 0), ("place", slot, 0, 0, 0)), [-2])
            self.assertEqual(last(HOUSE, CELL, ("drop", 0), ("place", slot, 9, 9, 9)), [-2])

    def test_a_house_of_one_cell(self):
        self.assertEqual(told(("begin", 1, 1, 1), CELL, ("place", 0, 0, 0, 0), ("place", 0, 1, 0, 0)),
                         [[0], [0], [0], [-22]])


if __name__ == "__main__":
    unittest.main()
