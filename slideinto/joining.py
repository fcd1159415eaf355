"""Joining: any body becomes any other one with as many squares, by way of rows."""

from slideinto.bodies import frame_of, lot_of_body
from slideinto.cells import EAST, NORTH, checked_cell, is_whole, lot_of, shifted
from slideinto.errors import BadBody, BadNumber
from slideinto.plans import back, moved_plan
from slideinto.rows import bound_to_row, plan_to_row
from slideinto.walks import Trail, walk_in


def row_at(first, n):
    """The row of n squares with this first cell."""
    return line_from(checked_cell(first), EAST, checked_many(n, 1))


def column_at(first, n):
    """The column of n squares with this first cell."""
    return line_from(checked_cell(first), NORTH, checked_many(n, 1))


def crawl(first, n, by):
    """A plan that moves the row with this first cell along itself."""
    return along(checked_cell(first), EAST, checked_many(n, 2), checked_by(by))


def climb(first, n, by):
    """A plan that moves the column with this first cell along itself."""
    return along(checked_cell(first), NORTH, checked_many(n, 2), checked_by(by))


def stand(first, n):
    """A plan that makes of the row with this first cell the column above its last cell."""
    column, row = checked_cell(first)
    many = checked_many(n, 2)
    trail = Trail(line_from((column, row), EAST, many))
    for k in range(1, many):
        trail.go((column + k - 1, row), (column + many - 1, row + k))
    return tuple(trail.moves)


def lie(first, n):
    """A plan that makes of the column with this first cell the row to the east of this cell."""
    column, row = checked_cell(first)
    many = checked_many(n, 2)
    trail = Trail(line_from((column, row), NORTH, many))
    for k in range(1, many):
        trail.go((column, row + many - k), (column + k, row))
    return tuple(trail.moves)


def row_plan(first, other, n):
    """A plan from the row with the one first cell to the row with the other one."""
    source = checked_cell(first)
    goal = checked_cell(other)
    many = checked_many(n, 2)
    if (goal[1], goal[0]) < (source[1], source[0]):
        return back(upward_plan(goal, source, many))
    return upward_plan(source, goal, many)


def plan_between(body, other):
    """A plan from a body to another one with as many squares."""
    check_both(body, other)
    if body == other:
        return ()
    rowed = plan_to_row(body)
    goal = plan_to_row(other)
    return rowed.moves + row_plan(rowed.row[0], goal.row[0], len(body)) + back(goal.moves)


def bound_between(body, other):
    """A number of moves that is enough from a body to another one with as many squares."""
    check_both(body, other)
    if body == other:
        return 0
    many = len(body)
    wide, high = extent_of(body + other)
    return bound_of(body) + bound_of(other) + many * (3 * many + wide + high)


def checked_many(n, least):
    """A number of squares; BadNumber if it is no integer from the least one on."""
    if not is_whole(n) or n < least:
        raise BadNumber("n", n)
    return n


def checked_by(by):
    """A number of steps in either direction; BadNumber if it is no integer."""
    if not is_whole(by):
        raise BadNumber("by", by)
    return by


def check_both(body, other):
    """BadBody for the first one that is no body, and for the other one if no plan leads there."""
    lot_of_body(body)
    lot_of_body(other)
    if len(body) != len(other) or (len(body) == 1 and body != other):
        raise BadBody(other)


def line_from(first, step, many):
    """The row or column of so many squares in the direction of a step."""
    return tuple([(first[0] + k * step[0], first[1] + k * step[1]) for k in range(many)])


def along(first, step, many, by):
    """A plan that moves a row or a column by so many steps, backward if by is below 0."""
    line = line_from(first, step, many)
    if by < 0:
        line = line[::-1]
        way = (-step[0], -step[1])
    else:
        way = step
    # The body behind a walk is the one ahead of it moved by one cell, and so is each walk.
    moves = walk_in(lot_of(line), line[0], shifted(line[-1], way))
    plan = []
    for k in range(abs(by)):
        plan.extend(moved_plan(moves, (k * way[0], k * way[1])))
    return tuple(plan)


def upward_plan(source, goal, many):
    """The plan between rows of which the second one lies above the first one or to the east on one line."""
    column, row = source
    if goal[1] == row:
        return crawl(source, many, goal[0] - column)
    foot = (column + many - 1, row)
    top = (foot[0], goal[1])
    upright = stand(source, many) + climb(foot, many, goal[1] - row)
    return upright + lie(top, many) + crawl(top, many, goal[0] - foot[0])


def extent_of(cells):
    """The pair of the numbers of columns and rows of the least frame around some cells."""
    west, south, east, north = frame_of(cells)
    return (east - west + 1, north - south + 1)


def bound_of(body):
    """The number of moves that is enough to make a row of a body."""
    wide, high = extent_of(body)
    return bound_to_row(len(body), wide, high)
