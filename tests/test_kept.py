"""keep, changed, newly, back, look and state (point 5)."""

import unittest

from tests.told import EVERYTHING, GREATEST, last, told

HOUSE = ("begin", 5, 5, 3)
CELL = ("box", 0, 0, 0, 0, 0, 0, 0)
FULL = [HOUSE] + [CELL] * 16
KEEP = ("keep",)
CHANGED = ("changed",)
NEWLY = ("newly",)
BACK = ("back",)


def cell_at(kind, x, y, z):
    return ("box", kind, x, y, z, x, y, z)


class Keep(unittest.TestCase):
    def test_it_answers_how_many_boxes_there_are(self):
        self.assertEqual(told(HOUSE, KEEP, CELL, KEEP, CELL, CELL, ("drop", 1), KEEP),
                         [[0], [0], [0], [1], [1], [2], [0], [2]])
        self.assertEqual(last(*FULL, KEEP), [16])

    def test_the_boxes_stay_as_they_are(self):
        calls = (HOUSE, CELL, cell_at(1, 4, 4, 2), ("may", 0, 1, 1), ("far", 0, 1, 5))
        before = told(*calls, *EVERYTHING)[len(calls):]
        behind = told(*calls, KEEP, *EVERYTHING)[len(calls) + 1:]
        self.assertEqual(behind[1:], before[1:])
        self.assertEqual(behind[0], [2, 5, 5, 3, 1, 1])

    def test_a_later_one_counts(self):
        self.assertEqual(told(HOUSE, CELL, KEEP, ("place", 0, 1, 1, 1), KEEP, CHANGED, ("drop", 0), BACK, ("look", 0)),
                         [[0], [0], [1], [0], [1], [0], [0], [1], [0, 1, 1, 1, 1, 1, 1]])

    def test_a_plan_without_boxes_is_kept_too(self):
        self.assertEqual(told(HOUSE, KEEP, CHANGED, NEWLY, BACK, CELL, CHANGED, BACK, ("look", 0)),
                         [[0], [0], [0], [0], [0], [0], [1, 0, 0], [1], [-2]])


class NoneKept(unittest.TestCase):
    def test_refused(self):
        for call in (CHANGED, NEWLY, BACK):
            self.assertEqual(told(HOUSE, call, CELL, call), [[0], [-16], [0], [-16]])

    def test_refused_it_changes_nothing(self):
        calls = (HOUSE, CELL, cell_at(1, 0, 0, 0), ("far", 0, 1, 2))
        self.assertEqual(told(*calls, CHANGED, NEWLY, BACK, *EVERYTHING)[len(calls) + 3:],
                         told(*calls, *EVERYTHING)[len(calls):])

    def test_a_begin_that_comes_again_takes_it_away(self):
        for call in (CHANGED, NEWLY, BACK):
            self.assertEqual(told(HOUSE, CELL, KEEP, HOUSE, call, ("state",), CELL, KEEP, call),
                             [[0], [0], [1], [0], [-16], [0, 5, 5, 3, 0, 0], [0], [1], [0]])

    def test_a_begin_that_is_refused_does_not(self):
        for begin in (("begin", 6, 5, 3), ("begin", 5, 0, 3), ("begin", 5, 5, GREATEST)):
            found = told(HOUSE, CELL, KEEP, ("drop", 0), begin, CHANGED, ("state",), BACK, ("look", 0))
            self.assertEqual(found[4:], [[-22], [1, 0, 1], [0, 5, 5, 3, 0, 1], [1], [0, 0, 0, 0, 0, 0, 0]])


class Changed(unittest.TestCase):
    def test_nothing(self):
        self.assertEqual(last(HOUSE, CELL, CELL, KEEP, CHANGED), [0])

    def test_there_was_none(self):
        self.assertEqual(last(HOUSE, CELL, KEEP, CELL, CHANGED), [1, 1, 0])

    def test_there_is_none_any_more(self):
        self.assertEqual(last(HOUSE, CELL, CELL, KEEP, ("drop", 0), CHANGED), [1, 0, 1])

    def test_other_cells(self):
        for target in ((1, 0, 0), (0, 1, 0), (0, 0, 1)):
            self.assertEqual(last(HOUSE, CELL, KEEP, ("place", 0, *target), CHANGED), [1, 0, 2], target)
        for end in ((1, 0, 0), (0, 1, 0), (0, 0, 1)):
            grown = ("box", 0, 0, 0, 0, *end)
            self.assertEqual(last(HOUSE, CELL, KEEP, ("drop", 0), grown, CHANGED), [1, 0, 2], end)
            self.assertEqual(last(HOUSE, grown, KEEP, ("drop", 0), CELL, CHANGED), [1, 0, 2], end)
            self.assertEqual(last(HOUSE, grown, KEEP, ("drop", 0), cell_at(0, *end), CHANGED), [1, 0, 2], end)

    def test_another_kind(self):
        self.assertEqual(last(HOUSE, CELL, KEEP, ("drop", 0), cell_at(1, 0, 0, 0), CHANGED), [1, 0, 2])

    def test_as_it_was_again(self):
        found = told(HOUSE, CELL, KEEP, ("drop", 0), CHANGED, CELL, CHANGED, ("place", 0, 1, 0, 0), CHANGED,
                     ("place", 0, 0, 0, 0), CHANGED)
        self.assertEqual(found[4::2], [[1, 0, 1], [0], [1, 0, 2], [0]])

    def test_put_and_dropped_again(self):
        self.assertEqual(last(HOUSE, KEEP, CELL, ("drop", 0), CHANGED), [0])

    def test_by_slots_not_by_boxes(self):
        found = last(HOUSE, cell_at(0, 0, 0, 0), cell_at(1, 1, 0, 0), KEEP, ("drop", 0), ("drop", 1),
                     cell_at(1, 1, 0, 0), CHANGED)
        self.assertEqual(found, [2, 0, 2, 1, 1])

    def test_slots_rising_with_each_sort(self):
        found = last(HOUSE, CELL, CELL, CELL, CELL, ("drop", 1), KEEP, CELL, CELL, ("drop", 0), ("place", 3, 1, 1, 1),
                     CHANGED)
        self.assertEqual(found, [4, 0, 1, 1, 0, 3, 2, 4, 0])

    def test_all_slots(self):
        rows = [number for slot in range(16) for number in (slot, 0)]
        self.assertEqual(last(HOUSE, KEEP, *[CELL] * 16, CHANGED), [16] + rows)
        found = last(*FULL, KEEP, *[("drop", slot) for slot in range(16)], CHANGED)
        self.assertEqual(found, [16] + [number for slot in range(16) for number in (slot, 1)])

    def test_what_is_laid(self):
        self.assertEqual(last(HOUSE, KEEP, ("lay", 0, 0, 0, 0, 1, 1, 0), CHANGED), [2, 0, 0, 1, 0])

    def test_what_kinds_may_and_must_is_no_box(self):
        self.assertEqual(last(HOUSE, CELL, KEEP, ("may", 0, 0, 1), ("far", 0, 0, 3), CHANGED), [0])


class Newly(unittest.TestCase):
    def test_what_clashed_before_is_not_new(self):
        self.assertEqual(last(HOUSE, CELL, CELL, KEEP, NEWLY), [0])
        self.assertEqual(told(HOUSE, CELL, CELL, KEEP, CELL, NEWLY, ("clashes",))[5:],
                         [[2, 0, 2, 1, 2], [3, 0, 1, 0, 2, 1, 2]])

    def test_one_that_was_moved(self):
        calls = (HOUSE, CELL, cell_at(1, 1, 0, 0), KEEP, ("place", 1, 0, 0, 0))
        self.assertEqual(last(*calls, NEWLY), [1, 0, 1])
        self.assertEqual(last(*calls, ("place", 1, 1, 0, 0), NEWLY), [0])

    def test_moved_together_they_clash_as_before(self):
        self.assertEqual(
            last(HOUSE, CELL, CELL, KEEP, ("place", 0, 1, 1, 1), ("place", 1, 1, 1, 1), NEWLY), [0])

    def test_what_clashes_no_more_is_not_told(self):
        self.assertEqual(last(HOUSE, CELL, CELL, KEEP, ("place", 0, 1, 1, 1), NEWLY), [0])

    def test_one_box_or_both_were_not_there(self):
        self.assertEqual(last(HOUSE, CELL, KEEP, CELL, NEWLY), [1, 0, 1])
        self.assertEqual(last(HOUSE, KEEP, CELL, CELL, NEWLY), [1, 0, 1])
        self.assertEqual(last(HOUSE, CELL, CELL, ("drop", 0), KEEP, CELL, NEWLY), [1, 0, 1])

    def test_another_kind_in_the_slot(self):
        calls = (HOUSE, ("may", 0, 1, 1), CELL, cell_at(1, 0, 0, 0), KEEP, ("drop", 1), cell_at(2, 0, 0, 0))
        self.assertEqual(last(*calls, NEWLY), [1, 0, 1])

    def test_by_what_the_kinds_may_now(self):
        # They share a cell then and now, and may not now: if the boxes were as they were kept they would clash.
        both = (HOUSE, CELL, cell_at(1, 0, 0, 0))
        self.assertEqual(told(*both, ("may", 0, 1, 1), KEEP, ("may", 0, 1, 0), NEWLY, ("clashes",))[6:],
                         [[0], [1, 0, 1]])
        self.assertEqual(told(*both, KEEP, ("may", 0, 1, 1), NEWLY, ("clashes",))[5:], [[0], [0]])
        # The kept boxes shared a cell and may do so now; those of another kind that are there now may not.
        calls = (*both, KEEP, ("drop", 1), cell_at(2, 0, 0, 0))
        self.assertEqual(last(*calls, NEWLY), [0])
        self.assertEqual(last(*calls, ("may", 0, 1, 1), NEWLY), [1, 0, 1])

    def test_pairs_rising(self):
        found = last(HOUSE, CELL, cell_at(0, 1, 0, 0), cell_at(0, 2, 0, 0), KEEP, ("box", 1, 0, 0, 0, 4, 0, 0),
                     ("place", 2, 0, 0, 0), NEWLY)
        self.assertEqual(found, [4, 0, 2, 0, 3, 1, 3, 2, 3])

    def test_all_pairs_of_all_slots(self):
        pairs = [(a, b) for a in range(16) for b in range(a + 1, 16)]
        self.assertEqual(last(HOUSE, KEEP, *[CELL] * 16, NEWLY), [120] + [slot for pair in pairs for slot in pair])

    def test_just_touching(self):
        self.assertEqual(last(HOUSE, CELL, cell_at(0, 4, 4, 2), KEEP, ("place", 1, 1, 0, 0), NEWLY), [0])

    def test_an_empty_slot_between(self):
        self.assertEqual(last(HOUSE, CELL, CELL, cell_at(0, 1, 0, 0), ("drop", 1), KEEP, ("place", 2, 0, 0, 0), NEWLY),
                         [1, 0, 2])


class Back(unittest.TestCase):
    def test_the_boxes_are_as_they_were(self):
        calls = (HOUSE, CELL, cell_at(1, 1, 1, 1), cell_at(2, 2, 2, 2), KEEP)
        before = told(*calls, *EVERYTHING)[len(calls):]
        later = (("drop", 0), ("place", 1, 0, 0, 0), cell_at(3, 4, 4, 2), CELL, ("drop", 2))
        found = told(*calls, *later, BACK, *EVERYTHING)[len(calls) + len(later):]
        # Slot 0 has another kind, 1 other cells, 2 none, 3 one more.
        self.assertEqual(found, [[4]] + before)

    def test_it_answers_how_many_had_changed(self):
        self.assertEqual(last(HOUSE, CELL, KEEP, BACK), [0])
        self.assertEqual(last(HOUSE, CELL, KEEP, CELL, CELL, BACK), [2])
        self.assertEqual(last(*FULL, KEEP, *[("drop", slot) for slot in range(16)], BACK), [16])
        self.assertEqual(last(HOUSE, CELL, KEEP, ("drop", 0), CELL, BACK), [0])

    def test_back_nothing_has_changed(self):
        self.assertEqual(told(HOUSE, CELL, KEEP, CELL, ("drop", 0), BACK, CHANGED, NEWLY, BACK)[5:],
                         [[2], [0], [0], [0]])

    def test_those_that_were_kept_stay_kept(self):
        found = told(HOUSE, CELL, KEEP, ("drop", 0), BACK, ("place", 0, 1, 1, 1), CELL, CHANGED, NEWLY, BACK,
                     ("look", 0), ("look", 1), ("state",), ("drop", 0), CHANGED, BACK, ("look", 0))
        self.assertEqual(found[3:], [
            [0], [1], [0], [1], [2, 0, 2, 1, 0], [0], [2],
            [0, 0, 0, 0, 0, 0, 0], [-2], [1, 5, 5, 3, 0, 1], [0], [1, 0, 1], [1], [0, 0, 0, 0, 0, 0, 0]])

    def test_what_kinds_may_and_must_stays(self):
        found = told(HOUSE, CELL, CELL, KEEP, ("may", 0, 0, 1), ("far", 0, 0, 3), BACK, ("may", 0, 0, 1),
                     ("far", 0, 0, 3), ("clashes",), ("near",))
        self.assertEqual(found[6:], [[0], [1], [3], [0], [1, 0, 1]])

    def test_a_new_box_comes_to_the_slot_that_is_empty_then(self):
        self.assertEqual(last(HOUSE, CELL, CELL, ("drop", 0), KEEP, CELL, CELL, BACK, CELL), [0])

    def test_the_last_slot(self):
        self.assertEqual(told(*FULL, KEEP, ("drop", 15), BACK, ("look", 15), CELL)[18:],
                         [[0], [1], [0, 0, 0, 0, 0, 0, 0], [-28]])


class Look(unittest.TestCase):
    def test_kind_and_both_ends(self):
        self.assertEqual(told(HOUSE, CELL, ("box", 3, 1, 0, 2, 4, 3, 2), ("look", 0), ("look", 1))[3:],
                         [[0, 0, 0, 0, 0, 0, 0], [3, 1, 0, 2, 4, 3, 2]])

    def test_moved(self):
        self.assertEqual(last(HOUSE, ("box", 2, 0, 1, 0, 1, 3, 1), ("place", 0, 3, 0, 1), ("look", 0)),
                         [2, 3, 0, 1, 4, 2, 2])

    def test_the_last_slot(self):
        self.assertEqual(told(*FULL, ("look", 15), ("look", 16))[17:], [[0, 0, 0, 0, 0, 0, 0], [-2]])

    def test_no_such_box(self):
        for slot in (1, 15, 16, GREATEST):
            self.assertEqual(last(HOUSE, CELL, ("look", slot)), [-2])
        self.assertEqual(last(HOUSE, CELL, CELL, CELL, ("drop", 1), ("look", 1)), [-2])


class State(unittest.TestCase):
    def test_new(self):
        self.assertEqual(last(("begin", 5, 4, 3), ("state",)), [0, 5, 4, 3, 0, 0])
        self.assertEqual(last(("begin", 1, 1, 1), ("state",)), [0, 1, 1, 1, 0, 0])

    def test_how_many_boxes(self):
        self.assertEqual(last(HOUSE, CELL, CELL, CELL, ("drop", 1), ("state",)), [2, 5, 5, 3, 0, 0])
        self.assertEqual(last(*FULL, ("state",)), [16, 5, 5, 3, 0, 0])
        self.assertEqual(last(HOUSE, ("lay", 0, 0, 0, 0, 1, 1, 0), ("state",)), [2, 5, 5, 3, 0, 0])

    def test_how_many_pairs_of_kinds(self):
        found = told(HOUSE, ("may", 0, 1, 1), ("state",), ("may", 1, 0, 1), ("state",), ("may", 2, 2, 1), ("state",),
                     ("may", 3, 0, 0), ("state",), ("may", 1, 0, 0), ("state",))
        self.assertEqual([answer[4] for answer in found[2::2]], [1, 1, 2, 2, 1])

    def test_all_pairs_of_kinds(self):
        calls = [("may", k, l, 1) for k in range(4) for l in range(4)]
        self.assertEqual(last(HOUSE, *calls, ("state",)), [0, 5, 5, 3, 10, 0])

    def test_what_must_be_far_is_not_counted(self):
        self.assertEqual(last(HOUSE, ("far", 0, 1, 3), ("state",)), [0, 5, 5, 3, 0, 0])

    def test_whether_a_plan_is_kept(self):
        found = told(HOUSE, KEEP, ("state",), CELL, ("state",), BACK, ("state",), ("begin", 2, 1, 1), ("state",))
        self.assertEqual(found[2::2], [[0, 5, 5, 3, 0, 1], [1, 5, 5, 3, 0, 1], [0, 5, 5, 3, 0, 1], [0, 2, 1, 1, 0, 0]])


if __name__ == "__main__":
    unittest.main()
