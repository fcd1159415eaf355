"""Rows: every body becomes a row, by walks of one square after the other."""

from slideinto.bodies import lot_of_body, parts_of
from slideinto.borders import hung_in, numbers_in, outside_ring
from slideinto.cells import EAST, NORTH, WEST, body_in, checked_cell, flood, free_in, hangs_without, is_whole
from slideinto.cells import lot_without, near_in, shifted
from slideinto.errors import BadNumber, NotThere
from slideinto.walks import Trail


class Loosened:
    """The steps that shut gaps until a free square has a side of the outside."""

    def __init__(self, steps, moves, body):
        self.steps = steps
        self.moves = moves
        self.body = body


class Rowed:
    """The steps that make a row of a body."""

    def __init__(self, steps, moves, row):
        self.steps = steps
        self.moves = moves
        self.row = row


def outer_free(body):
    """The ascending tuple of the free squares that have a side of the outside."""
    return tuple(outer_free_in(lot_of_body(body)))


def parts_without(body, square):
    """The parts of the squares of a body but this one."""
    lot = lot_of_body(body)
    place = checked_cell(square)
    if place not in lot:
        raise NotThere(square)
    return parts_of(body_in(lot_without(lot, place)))


def loosened(body):
    """The steps that shut gaps, as long as no free square has a side of the outside."""
    trail = Trail(lot_of_body(body))
    steps = loosen(trail)
    return Loosened(tuple(steps), tuple(trail.moves), body_in(trail.lot))


def nook_of(body):
    """The cell at which two walls meet that hang together by the least square alone; None if it is free."""
    lot = lot_of_body(body)
    if len(lot) == 1 or hangs_without(lot, min(lot)):
        return None
    return nook_in(lot)


def plan_to_row(body):
    """The steps and moves that make a row of a body."""
    trail = Trail(lot_of_body(body))
    steps = loosen(trail)
    if len(trail.lot) > 1:
        steps.extend(steps_to_row(trail))
    return Rowed(tuple(steps), tuple(trail.moves), body_in(trail.lot))


def bound_to_row(many, wide, high):
    """A number of moves that is enough to make a row of so many squares in a frame so wide and high."""
    for what, number in (("many", many), ("wide", wide), ("high", high)):
        if not is_whole(number) or number < 1:
            raise BadNumber(what, number)
    return many * (1 + (wide * high - many) + 2 * (many - 1) * wide * high)


def outer_free_in(lot):
    """The ascending list of the free squares that have a side of the outside."""
    outer = {square: True for cell, square in outside_ring(lot)}
    return [square for square in free_in(lot) if square in outer]


def loosen(trail):
    """Shuts gaps until there is an outer free square, if there are two squares; the list of the steps."""
    steps = []
    while len(trail.lot) > 1 and not outer_free_in(trail.lot):
        square = least_within(trail.lot)
        cell = cell_to_shut(trail.lot, square)
        trail.go(square, cell)
        steps.append(("shut", square, cell))
    return steps


def least_within(lot):
    """The least free square with a side of a region that hangs on the outside."""
    numbers = numbers_in(lot)
    hanging = hung_in(lot)
    squares = [square for square in free_in(lot) for cell in near_in(numbers, square) if numbers[cell] in hanging]
    return squares[0]


def cell_to_shut(lot, square):
    """The cell of the gap towards the outside to which a square within walks."""
    rest = lot_without(lot, square)
    numbers = numbers_in(rest)
    number = numbers[square]
    gap = hung_in(rest)[number]
    return gap[2] if numbers[gap[2]] == number else gap[3]


def steps_to_row(trail):
    """Makes a row of a body with an outer free square; the list of the steps."""
    guest = outer_free_in(trail.lot)[0]
    last = max(lot_without(trail.lot, guest))
    trail.go(guest, shifted(last, EAST))
    steps = [("guest", guest)]
    core = core_of(trail.lot, last)
    while len(core) > 1:
        steps.append(step_to_row(trail, core, last))
        core = core_of(trail.lot, last)
    return steps


def core_of(lot, last):
    """The list of the squares that are not in the tail to the east of the square last."""
    # Nooks lie in the frame of the core, so nothing but the tail ever comes beyond this column.
    return [square for square in lot if square[0] <= last[0]]


def step_to_row(trail, core, last):
    """One square leaves the core for the end of the tail, or the tail's last one comes to the nook for it."""
    end = tail_end(trail.lot, last)
    upright = all(square[0] == last[0] for square in core)
    square = max(core) if upright and max(core) != last else min(core)
    if upright or hangs_without(trail.lot, square):
        trail.go(square, end)
        return ("tail", square)
    nook = nook_in(trail.lot)
    left = shifted(end, WEST)
    trail.go(left, nook)
    trail.go(square, left)
    return ("nook", square, nook)


def tail_end(lot, last):
    """The first empty cell to the east of the square last."""
    end = shifted(last, EAST)
    while end in lot:
        end = shifted(end, EAST)
    return end


def nook_in(lot):
    """The nook of a body whose least square is not free."""
    least = min(lot)
    above = flood(lot_without(lot, least), shifted(least, NORTH))
    ring = outside_ring(lot)
    for side, after in zip(ring, ring[1:]):
        if side[0] == after[0] and least not in (side[1], after[1]) and (side[1] in above) != (after[1] in above):
            return side[0]
    return None
