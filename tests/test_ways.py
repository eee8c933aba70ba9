"""way (point 4), and what holds of ways."""

import itertools
import random
import unittest

from tests.slow_ways import best_by_rank, best_of_all, bends_of, rank, sides_of
from tests.told import GREATEST, last, told

FLAT = ("begin", 5, 5, 1)
HOUSE = ("begin", 5, 4, 3)
WALLS = (("box", 1, 0, 1, 0, 3, 1, 0), ("box", 1, 1, 3, 0, 4, 3, 0))


def wall_at(*cell):
    return ("box", 1) + cell + cell


def way(*numbers):
    return ("way",) + numbers


def told_cells(bends, *cells):
    """The answer that a way is told by."""
    return [bends, len(cells)] + [number for cell in cells for number in cell]


def cells_told(answer):
    """The cells of such an answer; it fails if there are more or fewer than told."""
    if len(answer) != 2 + 3 * answer[1]:
        raise AssertionError(f"not so many cells as told: {answer}")
    return [tuple(answer[place:place + 3]) for place in range(2, len(answer), 3)]


class Straight(unittest.TestCase):
    def test_along_each_side(self):
        middle = (2, 1, 1)
        for end, cells in (
                ((0, 1, 1), [(2, 1, 1), (1, 1, 1), (0, 1, 1)]),
                ((4, 1, 1), [(2, 1, 1), (3, 1, 1), (4, 1, 1)]),
                ((2, 0, 1), [(2, 1, 1), (2, 0, 1)]),
                ((2, 3, 1), [(2, 1, 1), (2, 2, 1), (2, 3, 1)]),
                ((2, 1, 0), [(2, 1, 1), (2, 1, 0)]),
                ((2, 1, 2), [(2, 1, 1), (2, 1, 2)])):
            self.assertEqual(last(HOUSE, way(0, *middle, *end)), told_cells(0, *cells))

    def test_from_a_cell_to_itself(self):
        for cell in ((0, 0, 0), (2, 1, 1), (4, 3, 2)):
            self.assertEqual(last(HOUSE, way(3, *cell, *cell)), [0, 1, *cell])

    def test_from_a_cell_to_itself_that_is_not_free(self):
        self.assertEqual(last(HOUSE, wall_at(2, 1, 1), way(0, 2, 1, 1, 2, 1, 1)), [-33])
        self.assertEqual(last(HOUSE, wall_at(2, 1, 1), ("may", 0, 1, 1), way(0, 2, 1, 1, 2, 1, 1)), [0, 1, 2, 1, 1])

    def test_a_house_of_one_cell(self):
        self.assertEqual(told(("begin", 1, 1, 1), way(2, 0, 0, 0, 0, 0, 0), way(2, 0, 0, 0, 0, 0, 1)),
                         [[0], [0, 1, 0, 0, 0], [-2]])
        self.assertEqual(last(("begin", 1, 1, 1), wall_at(0, 0, 0), way(2, 0, 0, 0, 0, 0, 0)), [-33])

    def test_asking_changes_nothing(self):
        asked = way(0, 0, 0, 0, 4, 4, 0)
        found = told(FLAT, *WALLS, asked, ("state",), ("clashes",), asked)
        self.assertEqual(found[4:6], [[2, 5, 5, 1, 0, 0], [0]])
        self.assertEqual(found[3], found[6])


class Bends(unittest.TestCase):
    def test_the_fewest_bends(self):
        self.assertEqual(last(FLAT, *WALLS, way(0, 0, 0, 0, 4, 4, 0)), told_cells(
            4, (0, 0, 0), (1, 0, 0), (2, 0, 0), (3, 0, 0), (4, 0, 0), (4, 1, 0), (4, 2, 0), (3, 2, 0), (2, 2, 0),
            (1, 2, 0), (0, 2, 0), (0, 3, 0), (0, 4, 0), (1, 4, 0), (2, 4, 0), (3, 4, 0), (4, 4, 0)))

    def test_round_because_of_bends(self):
        # By y 0 there are seven cells, but three bends.
        found = last(FLAT, wall_at(2, 1, 0), wall_at(0, 0, 0), wall_at(1, 2, 0), way(0, 0, 1, 0, 4, 1, 0))
        self.assertEqual(found, told_cells(
            2, (0, 1, 0), (0, 2, 0), (0, 3, 0), (1, 3, 0), (2, 3, 0), (3, 3, 0), (4, 3, 0), (4, 2, 0), (4, 1, 0)))

    def test_with_one_bend_more_only_where_it_must(self):
        # The long way round is shut too, so the three bends it is.
        found = last(FLAT, wall_at(2, 1, 0), wall_at(0, 0, 0), wall_at(0, 2, 0), way(0, 0, 1, 0, 4, 1, 0))
        self.assertEqual(found, told_cells(
            3, (0, 1, 0), (1, 1, 0), (1, 0, 0), (2, 0, 0), (3, 0, 0), (4, 0, 0), (4, 1, 0)))

    def test_as_few_bends_and_the_fewest_cells(self):
        # Two bends by y 0 and by y 4; by y 0 there are fewer cells, though side 2 is the lesser one anyway.
        self.assertEqual(last(FLAT, wall_at(2, 1, 0), way(0, 0, 1, 0, 4, 1, 0))[:2], [2, 7])
        # Here the fewer cells are by the greater side.
        self.assertEqual(last(FLAT, wall_at(2, 3, 0), wall_at(2, 2, 0), way(0, 0, 3, 0, 4, 3, 0)), told_cells(
            2, (0, 3, 0), (0, 4, 0), (1, 4, 0), (2, 4, 0), (3, 4, 0), (4, 4, 0), (4, 3, 0)))

    def test_a_way_through_three_dimensions(self):
        self.assertEqual(last(HOUSE, way(0, 0, 0, 0, 1, 1, 1)), told_cells(
            2, (0, 0, 0), (1, 0, 0), (1, 1, 0), (1, 1, 1)))
        over = last(("begin", 3, 1, 2), wall_at(1, 0, 0), way(0, 0, 0, 0, 2, 0, 0))
        self.assertEqual(over, told_cells(2, (0, 0, 0), (0, 0, 1), (1, 0, 1), (2, 0, 1), (2, 0, 0)))


class LesserSide(unittest.TestCase):
    def test_where_two_go_likewise(self):
        for start, end, by in (
                ((1, 1, 1), (0, 0, 1), (0, 1, 1)), ((1, 1, 1), (0, 2, 1), (0, 1, 1)),
                ((1, 1, 1), (2, 0, 1), (2, 1, 1)), ((1, 1, 1), (2, 2, 1), (2, 1, 1)),
                ((1, 1, 1), (1, 0, 0), (1, 0, 1)), ((1, 1, 1), (1, 2, 2), (1, 2, 1)),
                ((1, 1, 1), (2, 1, 0), (2, 1, 1)), ((1, 1, 1), (0, 1, 2), (0, 1, 1))):
            self.assertEqual(last(HOUSE, way(0, *start, *end)), told_cells(1, start, by, end))

    def test_there_and_back_may_go_by_other_cells(self):
        self.assertEqual(last(FLAT, way(0, 0, 0, 0, 1, 1, 0)), told_cells(1, (0, 0, 0), (1, 0, 0), (1, 1, 0)))
        self.assertEqual(last(FLAT, way(0, 1, 1, 0, 0, 0, 0)), told_cells(1, (1, 1, 0), (0, 1, 0), (0, 0, 0)))

    def test_round_a_pillar(self):
        found = last(("begin", 3, 3, 1), wall_at(1, 1, 0), way(0, 1, 0, 0, 1, 2, 0))
        self.assertEqual(found, told_cells(2, (1, 0, 0), (0, 0, 0), (0, 1, 0), (0, 2, 0), (1, 2, 0)))

    def test_where_they_first_differ_not_where_they_last_do(self):
        # By sides 1, 3, 5 and by 1, 5, 3, and more: the second step tells.
        found = last(HOUSE, wall_at(0, 1, 0), wall_at(0, 0, 1), way(0, 0, 0, 0, 1, 1, 1))
        self.assertEqual(found, told_cells(2, (0, 0, 0), (1, 0, 0), (1, 1, 0), (1, 1, 1)))
        found = last(HOUSE, wall_at(1, 0, 0), way(0, 0, 0, 0, 1, 1, 1))
        self.assertEqual(found, told_cells(2, (0, 0, 0), (0, 1, 0), (1, 1, 0), (1, 1, 1)))

    def test_a_bend_as_late_as_the_lesser_side_goes(self):
        # Two bends and six cells at each of three places; side 1 goes on as long as it can.
        found = last(("begin", 4, 3, 1), wall_at(0, 1, 0), wall_at(3, 1, 0), wall_at(3, 0, 0), wall_at(0, 2, 0),
                     way(0, 0, 0, 0, 3, 2, 0))
        self.assertEqual(found, told_cells(
            2, (0, 0, 0), (1, 0, 0), (2, 0, 0), (2, 1, 0), (2, 2, 0), (3, 2, 0)))


class Free(unittest.TestCase):
    def test_only_through_what_the_kind_may(self):
        wall = (("begin", 3, 1, 1), wall_at(1, 0, 0))
        straight = told_cells(0, (0, 0, 0), (1, 0, 0), (2, 0, 0))
        self.assertEqual(last(*wall, way(0, 0, 0, 0, 2, 0, 0)), [-33])
        self.assertEqual(last(*wall, ("may", 0, 1, 1), way(0, 0, 0, 0, 2, 0, 0)), straight)
        self.assertEqual(last(*wall, ("may", 1, 0, 1), way(0, 0, 0, 0, 2, 0, 0)), straight)
        self.assertEqual(last(*wall, ("may", 0, 1, 1), way(2, 0, 0, 0, 2, 0, 0)), [-33])
        self.assertEqual(last(*wall, ("may", 0, 1, 1), ("may", 0, 1, 0), way(0, 0, 0, 0, 2, 0, 0)), [-33])

    def test_a_kind_and_its_like(self):
        wall = (("begin", 3, 1, 1), wall_at(1, 0, 0))
        self.assertEqual(last(*wall, way(1, 0, 0, 0, 2, 0, 0)), [-33])
        self.assertEqual(last(*wall, ("may", 1, 1, 1), way(1, 0, 0, 0, 2, 0, 0))[:2], [0, 3])

    def test_a_cell_of_two_boxes(self):
        boxes = (("begin", 3, 1, 1), wall_at(1, 0, 0), ("box", 2, 1, 0, 0, 1, 0, 0), ("may", 0, 1, 1))
        self.assertEqual(last(*boxes, way(0, 0, 0, 0, 2, 0, 0)), [-33])
        self.assertEqual(last(*boxes, ("may", 0, 2, 1), way(0, 0, 0, 0, 2, 0, 0))[:2], [0, 3])

    def test_both_ends_must_be_free(self):
        for cell in ((0, 0, 0), (4, 4, 0)):
            self.assertEqual(last(FLAT, wall_at(*cell), way(0, 0, 0, 0, 4, 4, 0)), [-33])
        self.assertEqual(last(FLAT, way(0, 0, 0, 0, 4, 4, 0))[:2], [1, 9])

    def test_what_must_be_far_does_not_shut_a_way(self):
        found = last(FLAT, ("far", 0, 1, 5), wall_at(0, 1, 0), way(0, 0, 0, 0, 4, 0, 0))
        self.assertEqual(found[:2], [0, 5])

    def test_the_box_in_the_last_slot_counts(self):
        calls = [("begin", 3, 1, 1)] + [("box", 0, 0, 0, 0, 0, 0, 0)] * 15 + [("may", 0, 0, 1)]
        self.assertEqual(last(*calls, way(0, 0, 0, 0, 2, 0, 0))[:2], [0, 3])
        self.assertEqual(last(*calls, wall_at(1, 0, 0), way(0, 0, 0, 0, 2, 0, 0)), [-33])

    def test_a_dropped_or_moved_box_gives_way(self):
        wall = (("begin", 3, 2, 1), ("box", 1, 1, 0, 0, 1, 1, 0))
        self.assertEqual(last(*wall, way(0, 0, 0, 0, 2, 0, 0)), [-33])
        self.assertEqual(last(*wall, ("drop", 0), way(0, 0, 0, 0, 2, 0, 0))[:2], [0, 3])
        self.assertEqual(last(*wall, ("place", 0, 2, 0, 0), way(0, 0, 0, 0, 1, 0, 0))[:2], [0, 2])

    def test_only_cells_with_a_side_in_common_are_beside_one_another(self):
        self.assertEqual(
            last(("begin", 2, 2, 1), wall_at(1, 0, 0), wall_at(0, 1, 0), way(0, 0, 0, 0, 1, 1, 0)), [-33])


class Refused(unittest.TestCase):
    def test_no_such_cell(self):
        for cell in ((5, 0, 0), (0, 4, 0), (0, 0, 3), (GREATEST, 0, 0), (0, GREATEST, 0), (0, 0, GREATEST)):
            self.assertEqual(last(HOUSE, way(0, *cell, 0, 0, 0)), [-2], cell)
            self.assertEqual(last(HOUSE, way(0, 0, 0, 0, *cell)), [-2], cell)
            self.assertEqual(last(HOUSE, way(0, *cell, *cell)), [-2], cell)

    def test_no_such_kind(self):
        for kind in range(4):
            self.assertEqual(last(HOUSE, way(kind, 0, 0, 0, 0, 0, 0)), [0, 1, 0, 0, 0])
        for kind in (4, 5, 256, GREATEST):
            self.assertEqual(last(HOUSE, way(kind, 0, 0, 0, 0, 0, 0)), [-22])

    def test_which_comes_first(self):
        shut = (("begin", 2, 1, 1), ("box", 1, 0, 0, 0, 1, 0, 0))
        self.assertEqual(last(*shut, way(4, 0, 0, 0, 2, 0, 0)), [-2])
        self.assertEqual(last(*shut, way(4, 2, 0, 0, 0, 0, 0)), [-2])
        self.assertEqual(last(*shut, way(4, 0, 0, 0, 1, 0, 0)), [-22])
        self.assertEqual(last(*shut, way(3, 0, 0, 0, 2, 0, 0)), [-2])
        self.assertEqual(last(*shut, way(3, 0, 0, 0, 1, 0, 0)), [-33])


class AgainstSlowSearches(unittest.TestCase):
    def check(self, size, walls, asked, search):
        """The program's ways for kind 0, in a house with some cells walled up, against a search of its own.

        Answers how many bends each has, -1 where there's no way.
        """
        bends = []
        house = set(itertools.product(*[range(side) for side in size]))
        calls = [("begin", *size), *[wall_at(*cell) for cell in walls]]
        answers = told(*calls, *[way(0, *start, *end) for start, end in asked])[len(calls):]
        for (start, end), answer in zip(asked, answers):
            best = search(house - set(walls), start, end)
            words = f"{size}, {walls}: {start} to {end}"
            if best is None:
                self.assertEqual(answer, [-33], words)
                bends.append(-1)
                continue
            cells = cells_told(answer)
            sides = sides_of(cells)
            self.assertEqual((cells[0], cells[-1]), (start, end), words)
            self.assertEqual((bends_of(sides), len(set(cells))), (answer[0], answer[1]), words)
            self.assertEqual(rank(sides), rank(best), words)
            bends.append(bends_of(best))
        return bends

    def test_all_ways_written_out(self):
        chance = random.Random(1)
        sizes = [size for size in itertools.product(range(1, 6), range(1, 6), range(1, 4))
                 if size[0] * size[1] * size[2] <= 12]
        for drawn in range(400):
            size = chance.choice(sizes)
            cells = list(itertools.product(*[range(side) for side in size]))
            walls = chance.sample(cells, min(chance.randrange(6), len(cells) - 1))
            asked = [(chance.choice(cells), chance.choice(cells)) for question in range(8)]
            self.check(size, walls, asked, best_of_all)

    def test_all_ends_of_small_plans(self):
        for size in ((3, 3, 1), (3, 1, 3), (1, 3, 3), (2, 2, 2)):
            cells = list(itertools.product(*[range(side) for side in size]))
            pairs = list(itertools.product(cells, cells))
            for walls in itertools.combinations(cells, 2):
                self.check(size, walls, pairs[:50], best_by_rank)
                self.check(size, walls, pairs[50:], best_by_rank)

    def test_many_great_plans(self):
        chance = random.Random(2)
        bends = []
        for drawn in range(200):
            size = (5, 5, chance.choice((1, 1, 2, 3)))
            cells = list(itertools.product(*[range(side) for side in size]))
            walls = chance.sample(cells, chance.randint(6, 16))
            asked = [(chance.choice(cells), chance.choice(cells)) for question in range(20)]
            bends.extend(self.check(size, walls, asked, best_by_rank))
        # The plans tell little if they hold no long ways, or no ends that are shut off.
        self.assertGreaterEqual(max(bends), 6)
        self.assertIn(-1, bends)


if __name__ == "__main__":
    unittest.main()
