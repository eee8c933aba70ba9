"""The form of `answers`: what it takes, what it gives back, and that it keeps nothing."""

import unittest

from ductplan.plan import answers
from tests.told import numbered

MIXED = [
    ("hits", 0), ("begin", 0, 1, 1), ("begin", 3, 3, 3), ("box", 1, 0, 0, 0, 2, 2, 2), ("box", 2, 1, 1, 1, 1, 1, 1),
    ("box", 2, 1, 1, 1, 2, 1, 1), ("clashes",), ("may", 1, 2, 1), ("far", 2, 2, 5), ("clashes",), ("near",),
    ("common", 0, 2), ("hits", 2), ("at", 1, 1, 1), ("place", 1, 0, 0, 0), ("drop", 0), ("near",),
]


class Form(unittest.TestCase):
    def test_counts_then_numbers(self):
        self.assertEqual(answers([0, 1, 1, 1]), [1, 0])
        self.assertEqual(answers([0, 0, 1, 1]), [1, -22])
        self.assertEqual(answers([6]), [1, -11])
        self.assertEqual(answers([0, 1, 1, 1, 6, 10, 9, 0, 0, 0]), [1, 0, 1, 0, 1, 0, 1, 0])

    def test_the_numbers_of_the_calls(self):
        self.assertEqual(
            answers([
                0, 3, 3, 3, 1, 0, 0, 0, 0, 1, 1, 1, 1, 2, 1, 1, 1, 2, 2, 2, 6, 7, 0, 1, 8, 1, 9, 1, 1, 1, 4, 0, 2, 1,
                6, 5, 0, 2, 2, 10, 3, 1, 2, 2, 2, 3, 1, 1, 1, 1, 2, 0, 2, 0, 10]),
            [1, 0, 1, 0, 1, 1, 3, 1, 0, 1, 1, 1, 2, 1, 0, 3, 2, 0, 1, 1, 0,
             1, 0, 1, 0, 3, 1, 0, 1, 1, -22, 1, 0, 1, 0, 1, -2, 1, 0])

    def test_only_whole_numbers_are_given_back(self):
        found = answers(numbered(MIXED))
        self.assertIs(type(found), list)
        self.assertEqual({type(number) for number in found}, {int})

    def test_the_longest_list(self):
        calls = [0, 5, 5, 3] + [1, 0, 0, 0, 0, 4, 4, 2] * 59
        self.assertEqual(answers(calls), [1, 0] + [n for slot in range(16) for n in (1, slot)] + [1, -28] * 43)
        self.assertEqual(answers([1, 0, 0, 0, 0, 0, 0, 0] * 60), [1, -11] * 60)


class NothingKept(unittest.TestCase):
    def test_what_is_handed_in_stays(self):
        calls = numbered(MIXED)
        before = list(calls)
        answers(calls)
        self.assertEqual(calls, before)

    def test_what_is_handed_in_is_not_changed_for_a_while_either(self):
        class Frozen(list):
            def refuse(self, *given):
                raise AssertionError("the list that was handed in is being changed")

            append = extend = insert = remove = pop = clear = sort = reverse = refuse
            __setitem__ = __delitem__ = __iadd__ = __imul__ = refuse

        self.assertEqual(answers(Frozen(numbered(MIXED))), answers(numbered(MIXED)))

    def test_the_same_again(self):
        calls = numbered(MIXED)
        first = answers(calls)
        answers([0, 5, 5, 3, 1, 0, 0, 0, 0, 0, 0, 0, 4, 1, 2, 1, 5, 2, 2, 4])
        self.assertEqual(answers(calls), first)
        self.assertEqual(answers(list(calls)), first)

    def test_a_new_object_each_time(self):
        answers([0, 1, 1, 1])
        self.assertEqual(answers([6]), [1, -11])

    def test_what_is_given_back_is_new_each_time(self):
        first = answers([0, 1, 1, 1])
        first.append(7)
        self.assertEqual(answers([0, 1, 1, 1]), [1, 0])


if __name__ == "__main__":
    unittest.main()
