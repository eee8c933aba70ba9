"""Ways from cell to cell: the fewest bends, then the fewest cells, then the lesser sides."""

from ductplan.boxes import AXES

# What a step by each side adds to x, y and z.
STEPS = ((-1, 0, 0), (1, 0, 0), (0, -1, 0), (0, 1, 0), (0, 0, -1), (0, 0, 1))


def best_way(free, start, end):
    """The straight pieces of the best way, each a list of cells; None if there's no way.

    `free` is a dict that has the cells by which it may go.
    """
    sides = best_sides(free, start, end)
    if sides is None:
        return None
    return straight_pieces(start, sides)


def best_sides(free, start, end):
    """The sides by which the best way goes, as a tuple; None if there's no way."""
    if start not in free:
        return None
    found = {start: ()}
    newest = [start]
    while newest and end not in found:
        reached = cells_one_bend_on(free, found, newest)
        found.update(reached)
        newest = list(reached)
    return found.get(end)


def cells_one_bend_on(free, found, newest):
    """The cells that take one straight run more than the newest ones, each with its best sides.

    By which side a way came to a newest cell needn't be asked: had it come by the side of the
    run that goes on there, the cell behind would have been found with a run less.
    """
    reached = {}
    for cell in newest:
        for side in range(len(STEPS)):
            sides = found[cell] + (side,)
            place = beside(cell, side)
            while place in free:
                if place not in found and (place not in reached or is_better(sides, reached[place])):
                    reached[place] = sides
                sides = sides + (side,)
                place = beside(place, side)
    return reached


def is_better(sides, other):
    """Which of two ways with as many bends, and to the same cell, is the better one."""
    return (len(sides), sides) < (len(other), other)


def beside(cell, side):
    step = STEPS[side]
    return tuple([cell[axis] + step[axis] for axis in AXES])


def straight_pieces(start, sides):
    """Each cell of the way in one piece, that of a bend in the piece that comes to it."""
    cell = start
    pieces = [[start]]
    before = None
    for side in sides:
        if before is not None and side != before:
            pieces.append([])
        cell = beside(cell, side)
        pieces[-1].append(cell)
        before = side
    return pieces
