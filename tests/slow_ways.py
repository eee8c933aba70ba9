"""Slow searches for the best way, each of its own, to hold the program's against."""

import heapq

STEPS = {0: (-1, 0, 0), 1: (1, 0, 0), 2: (0, -1, 0), 3: (0, 1, 0), 4: (0, 0, -1), 5: (0, 0, 1)}


def next_cell(cell, side):
    return tuple(number + step for number, step in zip(cell, STEPS[side]))


def cells_of(start, sides):
    cells = [start]
    for side in sides:
        cells.append(next_cell(cells[-1], side))
    return cells


def sides_of(cells):
    """The sides by which a way goes; it fails where a cell isn't beside the one before."""
    sides = []
    for cell, following in zip(cells, cells[1:]):
        fitting = [side for side in STEPS if next_cell(cell, side) == following]
        if len(fitting) != 1:
            raise AssertionError(f"{following} isn't beside {cell}")
        sides.append(fitting[0])
    return tuple(sides)


def bends_of(sides):
    return sum(side != before for before, side in zip(sides, sides[1:]))


def rank(sides):
    """The lesser rank is the better way."""
    return (bends_of(sides), len(sides), sides)


def best_by_rank(free, start, end):
    """The sides of the best way, or None: ways are taken up best first, whatever their end."""
    waiting = [((0, 0, ()), start)] if start in free else []
    done = set()
    while waiting:
        (bends, steps, sides), cell = heapq.heappop(waiting)
        if cell == end:
            return sides
        # How a way can go on hangs on its last side too.
        if (cell, sides[-1:]) in done:
            continue
        done.add((cell, sides[-1:]))
        for side in STEPS:
            if next_cell(cell, side) in free:
                heapq.heappush(waiting, (rank(sides + (side,)), next_cell(cell, side)))
    return None


def best_of_all(free, start, end):
    """The same by writing out all ways that have no cell twice; for small houses alone."""
    found = []
    waiting = [()] if start in free else []
    while waiting:
        sides = waiting.pop()
        cells = cells_of(start, sides)
        if cells[-1] == end:
            found.append(sides)
            continue
        for side in STEPS:
            there = next_cell(cells[-1], side)
            if there in free and there not in cells:
                waiting.append(sides + (side,))
    return min(found, key=rank, default=None)


def pieces_of(cells):
    """A way's cells by straight pieces: a cell begins one if the step to it isn't like the step before."""
    sides = sides_of(cells)
    pieces = []
    for place, cell in enumerate(cells):
        if place == 0 or place > 1 and sides[place - 1] != sides[place - 2]:
            pieces.append([])
        pieces[-1].append(cell)
    return pieces
