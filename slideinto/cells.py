"""Cells and lots of cells: what the other modules are built on.

A lot is a dict with its cells as keys and True for each of them. Unlike a set it can be passed on and be
gone over, and it keeps the order of its cells.
"""

from slideinto.errors import BadCell

EAST = (1, 0)
NORTH = (0, 1)
WEST = (-1, 0)
CROSSWISE = ((-1, -1), (1, -1), (1, 1), (-1, 1))


def is_whole(value):
    """Whether a value is an integer; True and False are none."""
    return isinstance(value, int) and not isinstance(value, bool)


def is_cell(value):
    """Whether a value is a tuple of two integers."""
    if not isinstance(value, tuple) or len(value) != 2:
        return False
    return is_whole(value[0]) and is_whole(value[1])


def checked_cell(value):
    """A value as a plain cell; BadCell if it is none."""
    if not is_cell(value):
        raise BadCell(value)
    return plain_cell(value)


def plain_cell(cell):
    """The same cell as a plain tuple of plain integers."""
    # What is returned to callers is plain, even if they pass named tuples or integers of a class of their own.
    return (int(cell[0]), int(cell[1]))


def shifted(cell, by):
    """The cell that lies across and up from a cell as far as the pair by tells."""
    return (cell[0] + by[0], cell[1] + by[1])


def four_beside(cell):
    """The cells to the west, south, east and north of a cell."""
    column, row = cell
    return ((column - 1, row), (column, row - 1), (column + 1, row), (column, row + 1))


def lot_of(cells):
    """The lot of these cells, each as a plain one."""
    return {plain_cell(cell): True for cell in cells}


def checked_lot(cells):
    """The lot of a list of values; BadCell for the first one that is no cell."""
    return {checked_cell(value): True for value in cells}


def lot_without(lot, cell):
    """The lot of the other cells."""
    return {other: True for other in lot if other != cell}


def put(lot, start, end):
    """Puts the cell end into a lot in the place of the cell start."""
    del lot[start]
    lot[end] = True


def body_in(lot):
    """The ascending tuple of the cells of a lot."""
    return tuple(sorted(lot))


def near_in(lot, cell):
    """The list of the cells of a lot that lie beside a cell."""
    return [near for near in four_beside(cell) if near in lot]


def flood(lot, first):
    """The lot of all cells to which ways from neighbour to neighbour within a lot lead from the first one."""
    found = {first: True}
    ahead = [first]
    while ahead:
        cell = ahead.pop()
        for near in near_in(lot, cell):
            if near not in found:
                found[near] = True
                ahead.append(near)
    return found


def lot_hangs(lot):
    """Whether a lot hangs together; one without cells does not."""
    return len(lot) > 0 and len(flood(lot, min(lot))) == len(lot)


def hangs_without(lot, cell):
    """Whether the other cells of a lot that hangs together do so, too; if there are none they do not."""
    around = near_in(lot, cell)
    if len(around) < 2 or links_around(lot, cell) >= len(around) - 1:
        return len(around) > 0
    found = {cell: True, around[0]: True}
    ahead = [around[0]]
    missing = len(around) - 1
    while ahead and missing > 0:
        place = ahead.pop()
        for near in near_in(lot, place):
            if near not in found:
                found[near] = True
                ahead.append(near)
                if near in around:
                    missing -= 1
    return missing == 0


def links_around(lot, cell):
    """How many cells crosswise from a cell lie in a lot, each between two neighbours of the cell in the lot."""
    column, row = cell
    links = 0
    for across, up in CROSSWISE:
        crosswise = (column + across, row + up)
        if crosswise in lot and (crosswise[0], row) in lot and (column, crosswise[1]) in lot:
            links += 1
    return links


def free_in(lot):
    """The ascending list of the cells of a lot that hangs together without which the others hang together."""
    counts = rest_counts(lot)
    return sorted([cell for cell in counts if counts[cell] == 1])


def rest_counts(lot):
    """A dict that tells for each cell of a lot that hangs together into how many parts the others fall."""
    came_from = depth_first(lot)
    numbers = {cell: number for number, cell in enumerate(came_from)}
    lowest = lowest_met(lot, came_from, numbers)
    # The cells on the way to a cell are one part, but the first cell has no such way. The cells that are
    # found from it by one of its neighbours are a part of their own if they meet nothing ahead of it.
    counts = {cell: 0 if before is None else 1 for cell, before in came_from.items()}
    for cell, before in came_from.items():
        if before is not None and lowest[cell] == numbers[before]:
            counts[before] += 1
    return counts


def depth_first(lot):
    """The cells of a lot that hangs together, as a search in depth finds them, each with the one that led to it."""
    # A list of what lies ahead takes the place of calls within calls: a body may be one long row.
    came_from = {}
    ahead = [(min(lot), None)]
    while ahead:
        cell, before = ahead.pop()
        if cell not in came_from:
            came_from[cell] = before
            ahead.extend([(near, cell) for near in near_in(lot, cell) if near not in came_from])
    return came_from


def lowest_met(lot, came_from, numbers):
    """A dict that tells the least number of a neighbour of a cell or of the cells that were found from it."""
    lowest = {}
    for cell in reversed(list(came_from)):
        met = [lowest[near] if came_from[near] == cell else numbers[near] for near in near_in(lot, cell)]
        lowest[cell] = min(met, default=numbers[cell])
    return lowest
