"""Walks: one square goes along the border of the others, and no other one moves."""

from slideinto.bodies import lot_of_body
from slideinto.borders import ring_from
from slideinto.cells import checked_cell, hangs_without, lot_without, near_in, put


def reach(body, start):
    """The ascending tuple of all cells to which the square at start can come, () if none lies there."""
    lot = lot_of_body(body)
    source = checked_cell(start)
    if source not in lot:
        return ()
    return tuple(sorted(ways_in(lot, source)))


def walk(body, start, end):
    """The plan with the fewest moves that brings the square at start to end, the least one; None if none does."""
    lot = lot_of_body(body)
    return walk_in(lot, checked_cell(start), checked_cell(end))


def walk_length(body, start, end):
    """The number of the moves of a walk, None if there is none."""
    moves = walk(body, start, end)
    return None if moves is None else len(moves)


class Trail:
    """A body on its way: the lot of its squares as they lie now, and the moves that were made."""

    def __init__(self, squares):
        self.lot = {square: True for square in squares}
        self.moves = []

    def go(self, start, end):
        """The square at start walks to end, where a walk leads."""
        self.moves.extend(walk_in(self.lot, start, end))
        put(self.lot, start, end)


def walk_in(lot, start, end):
    """The walk of the square at start to end in the body with the squares of this lot, None if there is none."""
    if start not in lot:
        return None
    ways = ways_in(lot, start)
    if end not in ways:
        return None
    distances = distances_to(ways, end, start)
    moves = []
    place = start
    while place != end:
        nearer = distances[place] - 1
        # Of several ways the least plan goes each time to the least cell.
        after = min([near for near in ways[place] if distances.get(near) == nearer])
        moves.append((place, after))
        place = after
    return tuple(moves)


def ways_in(lot, start):
    """A dict with the cells to which the square at start can come, and for each one those that are a move away."""
    ways = {start: []}
    if not hangs_without(lot, start):
        return ways
    rest = lot_without(lot, start)
    ring = ring_from(rest, (start, near_in(rest, start)[0]))
    before = ring[-1][0]
    for cell, square in ring:
        if cell != before:
            ways.setdefault(before, []).append(cell)
            ways.setdefault(cell, []).append(before)
        before = cell
    return ways


def distances_to(ways, end, start):
    """A dict that tells the fewest moves to end, for start and for all cells that are nearer to it."""
    distances = {end: 0}
    layer = [end]
    while start not in distances:
        after = []
        for cell in layer:
            for near in ways[cell]:
                if near not in distances:
                    distances[near] = distances[cell] + 1
                    after.append(near)
        layer = after
    return distances
