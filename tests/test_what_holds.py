"""What the document says holds over the whole program, asked of many drawn plans."""

import itertools
import unittest

from tests.drawn import Maker
from tests.told import boxes, told

PLANS = 250


def plans(count):
    """Calls that lead to a plan, with the slots that have a box then and what each looks like."""
    for seed in range(PLANS):
        calls = Maker(seed).plan(count)
        yield seed, calls, boxes(*calls)


def ask(calls, questions):
    """What each question is answered behind the calls; in as many lists as it takes."""
    found = []
    room = 60 - len(calls)
    for start in range(0, len(questions), room):
        found += told(*calls, *questions[start:start + room])[len(calls):]
    return found


def pairs_of(answer):
    return [tuple(answer[place:place + 2]) for place in range(1, len(answer), 2)]


def cells_of(look):
    return set(itertools.product(*[range(look[1 + axis], look[4 + axis] + 1) for axis in range(3)]))


class WhatHolds(unittest.TestCase):
    def test_two_boxes_share_a_cell_just_if_they_are_0_away(self):
        seen = set()
        for seed, calls, looks in plans(20):
            pairs = list(itertools.combinations_with_replacement(looks, 2))
            away = ask(calls, [("away", *pair) for pair in pairs])
            common = ask(calls, [("common", *pair) for pair in pairs])
            for pair, steps, cells in zip(pairs, away, common):
                self.assertEqual(steps == [0], cells[0] > 0, f"seed {seed}, {pair}")
                seen.add(steps[0])
        self.assertEqual(seen, {0, 1, 2, 3, 4})

    def test_a_clash_is_a_cell_that_is_in_both(self):
        for seed, calls, looks in plans(20):
            clashing = pairs_of(ask(calls, [("clashes",)])[0])
            hits = dict(zip(looks, ask(calls, [("hits", slot) for slot in looks])))
            through = dict(zip(looks, ask(calls, [("through", slot) for slot in looks])))
            for a, b in itertools.combinations(looks, 2):
                shared = len(cells_of(looks[a]) & cells_of(looks[b]))
                is_clash = (a, b) in clashing
                may_pass = (b, shared) in pairs_of(through[a])
                words = f"seed {seed}, {a} and {b}"
                # Of two that share a cell, either they clash or the one may go through the other.
                self.assertEqual([is_clash, may_pass].count(True), 1 if shared else 0, words)
                self.assertEqual(is_clash, b in hits[a][1:], words)
                self.assertEqual(is_clash, a in hits[b][1:], words)
                self.assertEqual(may_pass, (a, shared) in pairs_of(through[b]), words)

    def test_what_is_laid_clashes_with_nothing_that_it_did_not(self):
        laid = 0
        for seed, calls, looks in plans(12):
            maker = Maker(seed + PLANS)
            maker.size = list(calls[0][1:])
            lay = ("lay", *maker.arguments("lay"))
            way = ("way", *lay[1:])
            way_told, before = ask(calls, [way, ("clashes",)])
            count, behind, newly = told(*calls, ("keep",), lay, ("clashes",), ("newly",))[len(calls) + 1:]
            self.assertEqual((before, newly), (behind, [0]), f"seed {seed}")
            if count[0] < 0:
                self.assertEqual(boxes(*calls, lay), looks, f"seed {seed}")
                continue
            laid += 1
            self.assertEqual(count[0], way_told[0] + 1, f"seed {seed}")
            now = boxes(*calls, lay)
            new = [look for slot, look in now.items() if slot not in looks]
            cells = [cell for look in new for cell in cells_of(look)]
            gone = [tuple(way_told[place:place + 3]) for place in range(2, len(way_told), 3)]
            self.assertEqual((len(new), sorted(cells)), (count[0], sorted(gone)), f"seed {seed}")
            self.assertEqual({slot: now[slot] for slot in looks}, looks, f"seed {seed}")
        self.assertGreater(laid, 30)

    def test_back_nothing_has_changed(self):
        changed = 0
        for seed, calls, looks in plans(15):
            later = Maker(seed + PLANS).draw(("box", "drop", "place", "may", "lay"), 15)
            rows = ask([*calls, ("keep",), *later], [("changed",)])[0]
            back = [*calls, ("keep",), *later, ("back",)]
            found = ask(back, [("changed",), ("newly",), ("back",), ("changed",)])
            self.assertEqual(found, [[0], [0], [0], [0]], f"seed {seed}")
            self.assertEqual(told(*back)[-1], rows[:1], f"seed {seed}")
            self.assertEqual(boxes(*back), looks, f"seed {seed}")
            # Those that were kept stay kept.
            self.assertEqual(boxes(*back, ("drop", 0), ("box", 0, 0, 0, 0, 0, 0, 0), ("back",)), looks, f"seed {seed}")
            changed += rows[0] > 0
        self.assertGreater(changed, PLANS // 2)

    def test_a_refusal_changes_nothing(self):
        refused = set()
        for seed in range(PLANS):
            calls = Maker(seed).calls()
            answers = told(*calls)
            # Without the calls that were refused, the others are answered as they were.
            kept = [place for place, answer in enumerate(answers) if answer[0] >= 0]
            refused |= {(calls[place][0], answer[0]) for place, answer in enumerate(answers) if answer[0] < 0}
            if kept:
                self.assertEqual(told(*[calls[place] for place in kept]), [answers[place] for place in kept])
        for pair in (("begin", -22), ("box", -22), ("drop", -2), ("place", -22), ("may", -22), ("far", -22),
                     ("lay", -2), ("lay", -22), ("lay", -33), ("lay", -28), ("back", -16)):
            self.assertIn(pair, refused)


if __name__ == "__main__":
    unittest.main()
