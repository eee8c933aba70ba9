"""begin, and what is answered ahead of it (point 1, and "The calls")."""

import unittest

from tests.told import GREATEST, NAMES, last, told

ARGUMENTS = {
    "box": (0, 0, 0, 0, 0, 0, 0), "drop": (0,), "place": (0, 0, 0, 0), "may": (0, 0, 0), "far": (0, 0, 0),
    "clashes": (), "common": (0, 0), "hits": (0,), "at": (0, 0, 0), "near": (), "away": (0, 0),
    "way": (0, 0, 0, 0, 0, 0, 0), "lay": (0, 0, 0, 0, 0, 0, 0), "through": (0,), "volume": (0,), "keep": (),
    "changed": (), "newly": (), "back": (), "look": (0,), "state": (),
}


class BeforeBegin(unittest.TestCase):
    def test_every_other_call_is_refused(self):
        for name in NAMES[1:]:
            with self.subTest(name):
                call = (name,) + ARGUMENTS[name]
                self.assertEqual(told(call, call), [[-11], [-11]])

    def test_wrong_arguments_are_refused_alike(self):
        for name in NAMES[1:]:
            with self.subTest(name):
                self.assertEqual(told((name,) + (GREATEST,) * len(ARGUMENTS[name])), [[-11]])

    def test_a_refused_begin_does_not_count(self):
        for name in NAMES[1:]:
            with self.subTest(name):
                call = (name,) + ARGUMENTS[name]
                self.assertEqual(told(("begin", 6, 5, 3), call), [[-22], [-11]])

    def test_what_was_refused_ahead_leaves_nothing(self):
        self.assertEqual(
            told(("box", 0, 0, 0, 0, 0, 0, 0), ("lay", 0, 0, 0, 0, 0, 0, 0), ("may", 0, 0, 1), ("far", 0, 0, 4), ("keep",),
                 ("begin", 1, 1, 1), ("at", 0, 0, 0), ("state",), ("changed",), ("may", 0, 0, 1), ("far", 0, 0, 4)),
            [[-11], [-11], [-11], [-11], [-11], [0], [0], [0, 1, 1, 1, 0, 0], [-16], [0], [0]])


class Size(unittest.TestCase):
    def test_every_size_about_the_edges(self):
        for w in range(8):
            for d in range(8):
                for h in range(8):
                    fits = 1 <= w <= 5 and 1 <= d <= 5 and 1 <= h <= 3
                    self.assertEqual(told(("begin", w, d, h)), [[0 if fits else -22]], (w, d, h))

    def test_great_numbers(self):
        for size in ((GREATEST, 1, 1), (1, GREATEST, 1), (1, 1, GREATEST), (GREATEST,) * 3, (2147483648, 1, 1)):
            self.assertEqual(told(("begin",) + size), [[-22]], size)

    def test_each_side_bounds_its_own_axis(self):
        begin = ("begin", 5, 4, 3)
        self.assertEqual(told(begin, ("at", 4, 3, 2)), [[0], [0]])
        for cell in ((5, 3, 2), (4, 4, 2), (4, 3, 3)):
            self.assertEqual(last(begin, ("at",) + cell), [-2], cell)


class BeginAgain(unittest.TestCase):
    def test_it_forgets_boxes_and_what_kinds_may(self):
        cell = ("box", 2, 0, 0, 0, 0, 0, 0)
        found = told(
            ("begin", 2, 2, 2), cell, cell, ("may", 2, 2, 1), ("far", 2, 2, 3), ("begin", 2, 2, 2),
            ("clashes",), ("hits", 0), ("at", 0, 0, 0), cell, cell, ("near",), ("clashes",),
            ("may", 2, 2, 0), ("far", 2, 2, 0))
        self.assertEqual(found, [
            [0], [0], [1], [0], [0], [0],
            [0], [-2], [0], [0], [1], [0], [1, 0, 1],
            [0], [0]])

    def test_it_takes_another_size(self):
        self.assertEqual(told(("begin", 1, 1, 1), ("at", 4, 4, 2), ("begin", 5, 5, 3), ("at", 4, 4, 2),
                              ("begin", 1, 2, 1), ("at", 4, 4, 2)),
                         [[0], [-2], [0], [0], [0], [-2]])

    def test_refused_it_changes_nothing(self):
        found = told(
            ("begin", 3, 3, 3), ("box", 1, 0, 0, 0, 2, 2, 2), ("may", 0, 1, 1), ("far", 0, 1, 2),
            ("begin", 0, 1, 1), ("begin", 1, 1, 4),
            ("at", 2, 2, 2), ("may", 0, 1, 1), ("far", 0, 1, 2), ("box", 0, 0, 0, 0, 0, 0, 0))
        self.assertEqual(found, [[0], [0], [0], [0], [-22], [-22], [1, 0], [1], [2], [1]])


if __name__ == "__main__":
    unittest.main()
