"""lay (point 4), and what holds of what's laid."""

import unittest

from tests.told import EVERYTHING, GREATEST, boxes, last, told

HOUSE = ("begin", 5, 4, 3)
FLAT = ("begin", 5, 5, 1)
WALLS = (("box", 1, 0, 1, 0, 3, 1, 0), ("box", 1, 1, 3, 0, 4, 3, 0))
CELL = ("box", 0, 0, 0, 0, 0, 0, 0)


def lay(*numbers):
    return ("lay",) + numbers


class Pieces(unittest.TestCase):
    def test_straight_it_is_one_box(self):
        self.assertEqual(last(HOUSE, lay(2, 1, 0, 0, 4, 0, 0)), [1])
        self.assertEqual(boxes(HOUSE, lay(2, 1, 0, 0, 4, 0, 0)), {0: [2, 1, 0, 0, 4, 0, 0]})

    def test_the_lesser_cell_of_a_piece_comes_first_whichever_way_it_goes(self):
        for start, end in (((4, 1, 1), (1, 1, 1)), ((1, 3, 1), (1, 0, 1)), ((1, 1, 2), (1, 1, 0))):
            self.assertEqual(boxes(HOUSE, lay(2, *start, *end)), {0: [2, *end, *start]})
            self.assertEqual(boxes(HOUSE, lay(2, *end, *start)), {0: [2, *end, *start]})

    def test_from_a_cell_to_itself(self):
        self.assertEqual(last(HOUSE, lay(3, 4, 3, 2, 4, 3, 2)), [1])
        self.assertEqual(boxes(HOUSE, lay(3, 4, 3, 2, 4, 3, 2)), {0: [3, 4, 3, 2, 4, 3, 2]})

    def test_the_cell_of_a_bend_is_in_the_piece_that_comes_to_it(self):
        self.assertEqual(boxes(HOUSE, lay(0, 0, 0, 0, 2, 2, 0)), {0: [0, 0, 0, 0, 2, 0, 0], 1: [0, 2, 1, 0, 2, 2, 0]})
        self.assertEqual(boxes(HOUSE, lay(0, 2, 2, 0, 0, 0, 0)), {0: [0, 0, 2, 0, 2, 2, 0], 1: [0, 0, 0, 0, 0, 1, 0]})

    def test_pieces_of_one_cell(self):
        self.assertEqual(boxes(HOUSE, lay(0, 0, 0, 0, 1, 1, 1)),
                         {0: [0, 0, 0, 0, 1, 0, 0], 1: [0, 1, 1, 0, 1, 1, 0], 2: [0, 1, 1, 1, 1, 1, 1]})

    def test_many_pieces_in_order(self):
        self.assertEqual(last(FLAT, *WALLS, lay(0, 0, 0, 0, 4, 4, 0)), [5])
        found = boxes(FLAT, *WALLS, lay(0, 0, 0, 0, 4, 4, 0))
        self.assertEqual(list(found.values())[2:], [
            [0, 0, 0, 0, 4, 0, 0], [0, 4, 1, 0, 4, 2, 0], [0, 0, 2, 0, 3, 2, 0], [0, 0, 3, 0, 0, 4, 0],
            [0, 1, 4, 0, 4, 4, 0]])
        self.assertEqual(list(found), list(range(7)))

    def test_round_because_of_bends(self):
        walls = [("box", 1, *cell, *cell) for cell in ((2, 1, 0), (0, 0, 0), (1, 2, 0))]
        found = boxes(FLAT, *walls, lay(0, 0, 1, 0, 4, 1, 0))
        self.assertEqual(list(found.values())[3:],
                         [[0, 0, 1, 0, 0, 3, 0], [0, 1, 3, 0, 4, 3, 0], [0, 4, 1, 0, 4, 2, 0]])

    def test_each_cell_is_in_one(self):
        cells = [("at", x, y, 0) for x in range(5) for y in range(5)]
        found = told(FLAT, *WALLS, ("way", 0, 0, 0, 0, 4, 4, 0), lay(0, 0, 0, 0, 4, 4, 0), ("volume", 0), *cells)
        self.assertEqual(found[5], [found[3][1]])
        gone = [tuple(found[3][place:place + 3]) for place in range(2, len(found[3]), 3)]
        for call, answer in zip(cells, found[6:]):
            is_laid = [slot for slot in answer[1:] if slot > 1]
            self.assertEqual(len(is_laid), gone.count(call[1:]), call)

    def test_a_house_of_one_cell(self):
        self.assertEqual(told(("begin", 1, 1, 1), lay(1, 0, 0, 0, 0, 0, 0), lay(1, 0, 0, 0, 0, 0, 0), ("look", 0)),
                         [[0], [1], [-33], [1, 0, 0, 0, 0, 0, 0]])


class Slots(unittest.TestCase):
    def test_slots_that_are_empty_between_others(self):
        found = boxes(HOUSE, *[("box", 1, 4, 3, 2, 4, 3, 2)] * 5, ("drop", 1), ("drop", 3), lay(0, 0, 0, 0, 1, 1, 1))
        self.assertEqual(sorted(found), list(range(6)))
        self.assertEqual([found[1], found[3], found[5]],
                         [[0, 0, 0, 0, 1, 0, 0], [0, 1, 1, 0, 1, 1, 0], [0, 1, 1, 1, 1, 1, 1]])

    def test_the_last_slot(self):
        others = [HOUSE] + [("box", 1, 4, 3, 2, 4, 3, 2)] * 15
        found = told(*others, lay(0, 0, 0, 0, 3, 0, 0), ("look", 15), lay(0, 0, 1, 0, 3, 1, 0))
        self.assertEqual(found[16:], [[1], [0, 0, 0, 0, 3, 0, 0], [-28]])

    def test_just_as_many_as_it_takes_and_one_too_few(self):
        others = [HOUSE] + [("box", 1, 4, 3, 2, 4, 3, 2)] * 14
        self.assertEqual(told(*others, lay(0, 0, 0, 0, 1, 1, 0), ("look", 14), ("look", 15))[15:],
                         [[2], [0, 0, 0, 0, 1, 0, 0], [0, 1, 1, 0, 1, 1, 0]])
        self.assertEqual(told(*others, lay(0, 0, 0, 0, 1, 1, 1), ("look", 14), ("look", 15))[15:],
                         [[-28], [-2], [-2]])

    def test_one_piece_alone_that_finds_no_slot(self):
        self.assertEqual(last(HOUSE, *[CELL] * 16, lay(0, 4, 3, 2, 4, 3, 2)), [-28])


class Clashing(unittest.TestCase):
    def test_what_is_laid_clashes_with_nothing(self):
        found = told(FLAT, *WALLS, CELL, ("may", 0, 0, 1), ("clashes",), lay(0, 0, 0, 0, 4, 4, 0), ("clashes",),
                     *[("hits", slot) for slot in range(8)])
        self.assertEqual(found[5:], [[0], [5], [0]] + [[0]] * 8)

    def test_what_is_laid_is_in_the_way_of_its_like(self):
        row = ("begin", 3, 1, 1)
        self.assertEqual(told(row, lay(2, 0, 0, 0, 2, 0, 0), lay(2, 0, 0, 0, 2, 0, 0), lay(3, 1, 0, 0, 1, 0, 0)),
                         [[0], [1], [-33], [-33]])

    def test_a_kind_that_may_go_through_its_like(self):
        row = ("begin", 3, 1, 1)
        self.assertEqual(
            told(row, ("may", 2, 2, 1), lay(2, 0, 0, 0, 2, 0, 0), lay(2, 2, 0, 0, 1, 0, 0), ("clashes",),
                 ("through", 0), ("look", 1)),
            [[0], [0], [1], [1], [0], [1, 1, 2], [2, 1, 0, 0, 2, 0, 0]])

    def test_pieces_of_one_way_do_not_clash_with_one_another(self):
        self.assertEqual(told(HOUSE, lay(2, 0, 0, 0, 1, 1, 1), ("clashes",), ("common", 0, 1), ("away", 0, 1)),
                         [[0], [3], [0], [0], [1]])


class Refused(unittest.TestCase):
    def test_no_such_cell(self):
        for cell in ((5, 0, 0), (0, 4, 0), (0, 0, 3), (GREATEST, 0, 0), (0, GREATEST, 0), (0, 0, GREATEST)):
            self.assertEqual(last(HOUSE, lay(0, *cell, 0, 0, 0)), [-2], cell)
            self.assertEqual(last(HOUSE, lay(0, 0, 0, 0, *cell)), [-2], cell)

    def test_no_such_kind(self):
        for kind in (4, 5, 256, GREATEST):
            self.assertEqual(last(HOUSE, lay(kind, 0, 0, 0, 0, 0, 0)), [-22])

    def test_no_way(self):
        self.assertEqual(last(FLAT, ("box", 1, 2, 0, 0, 2, 4, 0), lay(0, 0, 0, 0, 4, 0, 0)), [-33])
        self.assertEqual(last(FLAT, CELL, lay(0, 0, 0, 0, 4, 0, 0)), [-33])
        self.assertEqual(last(FLAT, CELL, lay(0, 4, 0, 0, 0, 0, 0)), [-33])

    def test_which_comes_first(self):
        full = [HOUSE] + [CELL] * 16
        self.assertEqual(last(*full, lay(4, 0, 0, 0, 5, 0, 0)), [-2])
        self.assertEqual(last(*full, lay(0, 5, 0, 0, 0, 0, 0)), [-2])
        self.assertEqual(last(*full, lay(4, 0, 0, 0, 1, 0, 0)), [-22])
        self.assertEqual(last(*full, lay(0, 0, 0, 0, 1, 0, 0)), [-33])
        self.assertEqual(last(*full, lay(0, 1, 0, 0, 2, 0, 0)), [-28])

    def test_refused_it_changes_nothing(self):
        others = [HOUSE, ("may", 0, 2, 1)] + [CELL] * 14
        seen = told(*others, *EVERYTHING)[len(others):]
        for call in (lay(0, 5, 0, 0, 0, 0, 0), lay(4, 1, 0, 0, 1, 0, 0), lay(0, 0, 0, 0, 1, 0, 0),
                     lay(0, 1, 0, 0, 2, 1, 1)):
            found = told(*others, call, *EVERYTHING)[len(others):]
            self.assertLess(found[0][0], 0)
            self.assertEqual(found[1:], seen, call)


if __name__ == "__main__":
    unittest.main()
