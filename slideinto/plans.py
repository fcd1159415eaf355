"""Plans: rows of moves, each of them a move of the body that stands behind those ahead of it."""

from slideinto.cells import body_in, checked_cell, is_cell, lot_of, plain_cell, put, shifted
from slideinto.errors import NotKept
from slideinto.moves import kind_in


def first_wrong(body, plan):
    """The index of the first pair that is no move of the body behind those ahead of it; None for a plan."""
    lot = lot_of(body)
    for index, pair in enumerate(plan):
        if not is_move_in(lot, pair):
            return index
        put(lot, plain_cell(pair[0]), plain_cell(pair[1]))
    return None


def bodies_of(body, plan):
    """The tuple of the bodies ahead of the first move of a plan and behind each one."""
    return tuple(bodies_behind(body, checked_moves(body, plan)))


def end_of(body, plan):
    """The body behind the last move of a plan."""
    lot = lot_of(body)
    for start, end in checked_moves(body, plan):
        put(lot, start, end)
    return body_in(lot)


def back(plan):
    """The plan backward: the tuple of the pairs (end, start), the last one first."""
    return tuple([(plain_value(pair[1]), plain_value(pair[0])) for pair in plan[::-1]])


def moved_plan(plan, by):
    """The plan with both cells of each pair shifted by the tuple (across, up)."""
    shift = checked_cell(by)
    return tuple([(moved_cell(start, shift), moved_cell(end, shift)) for start, end in plan])


def moved_cell(cell, by):
    """A plain cell, across and up from a cell as far as the pair by tells."""
    return shifted(plain_cell(cell), by)


def plain_value(value):
    """A cell as a plain one, any other value as it is."""
    return plain_cell(value) if is_cell(value) else value


def is_move_in(lot, pair):
    """Whether a pair of any data is a move of the body with the squares of this lot."""
    if not isinstance(pair, tuple) or len(pair) != 2:
        return False
    if not is_cell(pair[0]) or not is_cell(pair[1]):
        return False
    return kind_in(lot, plain_cell(pair[0]), plain_cell(pair[1])) is not None


def checked_moves(body, plan):
    """The list of the moves of a plan of the body, all plain; NotKept if it is none."""
    wrong = first_wrong(body, plan)
    if wrong is not None:
        raise NotKept("plan", wrong)
    return [(plain_cell(start), plain_cell(end)) for start, end in plan]


def bodies_behind(body, moves):
    """The list of the bodies ahead of the first one and behind each one of moves that are a plan of the body."""
    lot = lot_of(body)
    bodies = [body_in(lot)]
    for start, end in moves:
        put(lot, start, end)
        bodies.append(body_in(lot))
    return bodies
