"""Many lists of calls, answered by the program and by a slow model that goes cell by cell."""

import unittest

from tests.drawn import Maker
from tests.model import Model
from tests.told import told

LISTS = 2500

# Each answer that a call has: 0 stands for all that are no refusals.
ANSWERS = {
    "begin": (0, -22), "box": (0, -11, -22, -28), "drop": (0, -11, -2), "place": (0, -11, -2, -22),
    "may": (0, -11, -22), "far": (0, -11, -22), "clashes": (0, -11), "common": (0, -11, -2),
    "hits": (0, -11, -2), "at": (0, -11, -2), "near": (0, -11), "away": (0, -11, -2),
    "way": (0, -11, -2, -22, -33), "lay": (0, -11, -2, -22, -33, -28), "through": (0, -11, -2),
    "volume": (0, -11, -22), "keep": (0, -11), "changed": (0, -11, -16), "newly": (0, -11, -16),
    "back": (0, -11, -16), "look": (0, -11, -2), "state": (0, -11),
}


class AgainstCells(unittest.TestCase):
    def test_many_lists(self):
        seen = set()
        most = {}
        for seed in range(LISTS):
            calls = Maker(seed).calls()
            model = Model()
            expected = [model.answer(call) for call in calls]
            for place, (call, was, asked) in enumerate(zip(calls, told(*calls), expected)):
                self.assertEqual(was, asked, f"seed {seed}, call {place}: {call}")
                seen.add((call[0], min(was[0], 0)))
                most[call[0]] = max(most.get(call[0], 0), was[0])
        self.assertEqual(seen, {(name, number) for name in ANSWERS for number in ANSWERS[name]})
        # The lists tell little if what they find is next to nothing.
        for name, least in (("clashes", 20), ("near", 20), ("way", 4), ("lay", 4), ("through", 5), ("changed", 5),
                            ("newly", 5), ("back", 5)):
            self.assertGreaterEqual(most[name], least, name)


if __name__ == "__main__":
    unittest.main()
