"""The form of `answers`: what it takes, what it gives back, and that it keeps nothing."""

import contextlib
import io
import sys
import unittest

from ductplan.plan import answers
from tests.told import NAMES, numbered

MIXED = [
    ("hits", 0), ("begin", 0, 1, 1), ("begin", 3, 3, 3), ("box", 1, 0, 0, 0, 2, 2, 2), ("box", 2, 1, 1, 1, 1, 1, 1),
    ("box", 2, 1, 1, 1, 2, 1, 1), ("clashes",), ("may", 1, 2, 1), ("far", 2, 2, 5), ("clashes",), ("near",),
    ("common", 0, 2), ("hits", 2), ("at", 1, 1, 1), ("keep",), ("place", 1, 0, 0, 0), ("drop", 0), ("near",),
    ("away", 1, 2), ("way", 0, 0, 2, 0, 2, 0, 2), ("lay", 0, 0, 2, 0, 2, 0, 2), ("through", 1), ("volume", 0),
    ("changed",), ("newly",), ("look", 0), ("state",), ("back",), ("changed",), ("begin", 1, 1, 1), ("back",),
]


class Form(unittest.TestCase):
    def test_counts_then_numbers(self):
        self.assertEqual(answers([0, 1, 1, 1]), [1, 0])
        self.assertEqual(answers([0, 0, 1, 1]), [1, -22])
        self.assertEqual(answers([6]), [1, -11])
        self.assertEqual(answers([0, 1, 1, 1, 6, 10, 9, 0, 0, 0]), [1, 0, 1, 0, 1, 0, 1, 0])

    def test_the_numbers_of_the_calls(self):
        self.assertEqual(
            answers([
                0, 3, 3, 3, 1, 0, 0, 0, 0, 1, 1, 1, 1, 2, 1, 1, 1, 2, 2, 2, 6, 7, 0, 1, 8, 1, 9, 1, 1, 1, 4, 0, 2, 1,
                6, 5, 0, 2, 2, 10, 3, 1, 2, 2, 2, 3, 1, 1, 1, 1, 2, 0, 2, 0, 10]),
            [1, 0, 1, 0, 1, 1, 3, 1, 0, 1, 1, 1, 2, 1, 0, 3, 2, 0, 1, 1, 0,
             1, 0, 1, 0, 3, 1, 0, 1, 1, -22, 1, 0, 1, 0, 1, -2, 1, 0])

    def test_the_numbers_of_the_later_calls(self):
        self.assertEqual(
            answers([
                0, 3, 2, 1, 1, 0, 1, 0, 0, 1, 0, 0, 16, 12, 2, 0, 0, 0, 2, 0, 0, 13, 2, 0, 0, 0, 2, 0, 0, 15, 2,
                4, 0, 2, 1, 3, 2, 1, 0, 0, 14, 0, 11, 0, 3, 17, 4, 2, 0, 0, 18, 20, 3, 21, 19, 21]),
            [1, 0, 1, 0, 1, 1,
             17, 2, 5, 0, 0, 0, 0, 1, 0, 1, 1, 0, 2, 1, 0, 2, 0, 0,
             1, 3, 1, 5, 1, 0, 1, 0, 3, 1, 2, 1, 1, 1,
             7, 3, 1, 0, 2, 0, 3, 0, 1, 1, 5, 2, 0, 2, 2, 3, 7, 2, 2, 0, 0, 2, 0, 0, 6, 4, 3, 2, 1, 0, 1,
             1, 3, 6, 1, 3, 2, 1, 0, 1])

    def test_every_call_is_among_the_mixed_ones(self):
        self.assertEqual({call[0] for call in MIXED}, set(NAMES))

    def test_only_whole_numbers_are_given_back(self):
        found = answers(numbered(MIXED))
        self.assertIs(type(found), list)
        self.assertEqual({type(number) for number in found}, {int})

    def test_the_longest_list(self):
        calls = [0, 5, 5, 3] + [1, 0, 0, 0, 0, 4, 4, 2] * 59
        self.assertEqual(answers(calls), [1, 0] + [n for slot in range(16) for n in (1, slot)] + [1, -28] * 43)
        self.assertEqual(answers([1, 0, 0, 0, 0, 0, 0, 0] * 60), [1, -11] * 60)


class NothingKept(unittest.TestCase):
    def test_what_is_handed_in_stays(self):
        calls = numbered(MIXED)
        before = list(calls)
        answers(calls)
        self.assertEqual(calls, before)

    def test_what_is_handed_in_is_not_changed_for_a_while_either(self):
        class Frozen(list):
            def refuse(self, *given):
                raise AssertionError("the list that was handed in is being changed")

            append = extend = insert = remove = pop = clear = sort = reverse = refuse
            __setitem__ = __delitem__ = __iadd__ = __imul__ = refuse

        self.assertEqual(answers(Frozen(numbered(MIXED))), answers(numbered(MIXED)))

    def test_the_same_again(self):
        calls = numbered(MIXED)
        first = answers(calls)
        answers([0, 5, 5, 3, 1, 0, 0, 0, 0, 0, 0, 0, 4, 1, 2, 1, 5, 2, 2, 4, 13, 0, 1, 0, 0, 4, 4, 2, 16])
        self.assertEqual(answers(calls), first)
        self.assertEqual(answers(list(calls)), first)

    def test_a_new_object_each_time(self):
        answers([0, 1, 1, 1])
        self.assertEqual(answers([6]), [1, -11])
        answers([0, 1, 1, 1, 1, 0, 0, 0, 0, 0, 0, 0, 16])
        self.assertEqual(answers([0, 1, 1, 1, 17, 21]), [1, 0, 1, -16, 6, 0, 1, 1, 1, 0, 0])

    def test_what_is_given_back_is_new_each_time(self):
        first = answers([0, 1, 1, 1])
        first.append(7)
        self.assertEqual(answers([0, 1, 1, 1]), [1, 0])


class NothingElse(unittest.TestCase):
    def test_nothing_is_printed(self):
        told, warned = io.StringIO(), io.StringIO()
        with contextlib.redirect_stdout(told), contextlib.redirect_stderr(warned):
            answers(numbered(MIXED))
        self.assertEqual((told.getvalue(), warned.getvalue()), ("", ""))

    def test_nothing_is_imported(self):
        before = set(sys.modules)
        answers(numbered(MIXED))
        self.assertEqual(set(sys.modules), before)

    def test_few_calls_within_one_another(self):
        depth = 0

        def watch(frame, event, given):
            nonlocal depth
            within = 0
            while frame is not None:
                within += 1
                frame = frame.f_back
            depth = max(depth, within)

        lists = [
            numbered(MIXED),
            [0, 5, 5, 3] + [1, 0, 0, 0, 0, 4, 4, 2] * 59,
            # A long way with many bends, and as many calls as there may be.
            [0, 5, 5, 1, 1, 1, 0, 1, 0, 3, 1, 0, 1, 1, 1, 3, 0, 4, 3, 0] + [12, 0, 0, 0, 0, 4, 4, 0] * 57,
        ]
        for calls in lists:
            sys.setprofile(watch)
            try:
                answers(calls)
            finally:
                sys.setprofile(None)
        frame = sys._getframe()
        while frame is not None:
            depth -= 1
            frame = frame.f_back
        self.assertLess(depth, 20)
        self.assertGreater(depth, 2)


if __name__ == "__main__":
    unittest.main()
