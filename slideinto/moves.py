"""Moves: a square slides along two neighbours, or turns round the corner of one."""

from slideinto.bodies import free_squares
from slideinto.cells import body_in, checked_cell, hangs_without, lot_of, put, shifted
from slideinto.errors import NoMove, NotThere

# Ascending, so that the moves of one square come out ascending.
STEPS = ((-1, -1), (-1, 0), (-1, 1), (0, -1), (0, 1), (1, -1), (1, 0), (1, 1))


def kind_of(body, start, end):
    """The kind of a move of the body, "slide" or "turn"; None if (start, end) is no move of it."""
    return kind_in(lot_of(body), checked_cell(start), checked_cell(end))


def moves_of(body):
    """The ascending tuple of all moves of the body."""
    lot = lot_of(body)
    moves = []
    for start in free_squares(body):
        for step in STEPS:
            end = shifted(start, step)
            if kind_by_place(lot, start, end) is not None:
                moves.append((start, end))
    return tuple(moves)


def done(body, start, end):
    """The body behind the move from start to end."""
    source = checked_cell(start)
    goal = checked_cell(end)
    lot = lot_of(body)
    if source not in lot:
        raise NotThere(start)
    if kind_in(lot, source, goal) is None:
        raise NoMove(start, end)
    put(lot, source, goal)
    return body_in(lot)


def kind_in(lot, start, end):
    """The kind of a move of the body with the squares of this lot, None if it is no move."""
    kind = kind_by_place(lot, start, end)
    if kind is None or not hangs_without(lot, start):
        return None
    return kind


def kind_by_place(lot, start, end):
    """The kind of a move as far as the cells around start and end tell it, without what the others do."""
    if start not in lot or end in lot:
        return None
    across = abs(end[0] - start[0])
    up = abs(end[1] - start[1])
    if across + up == 1:
        return "slide" if slides(lot, start, end) else None
    if across == 1 and up == 1:
        return "turn" if turns(lot, start, end) else None
    return None


def slides(lot, start, end):
    """Whether two squares lie on one side of two cells that are beside each other."""
    across = end[0] - start[0]
    up = end[1] - start[1]
    sides = ((up, across), (-up, -across))
    return any(shifted(start, side) in lot and shifted(end, side) in lot for side in sides)


def turns(lot, start, end):
    """Whether just one of the two cells that are beside both of two crosswise cells is a square."""
    return ((start[0], end[1]) in lot) != ((end[0], start[1]) in lot)
