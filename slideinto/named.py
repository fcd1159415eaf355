"""Names: squares that come to told cells, each to its own."""

from slideinto.bodies import lot_of_body
from slideinto.cells import EAST, NORTH, body_in, checked_cell, is_cell, lot_hangs, lot_of, plain_cell, shifted
from slideinto.errors import BadBody, BadName, BadNumber, NotKept, TakenName
from slideinto.joining import bound_between, bound_of, checked_many, crawl, extent_of, plan_between, row_at, row_plan
from slideinto.plans import back, checked_moves
from slideinto.rows import plan_to_row
from slideinto.texts import is_name
from slideinto.walks import Trail

TURN = "turn"
HOLD = "hold"


def is_placing(value):
    """Whether a value, whatever it is, is a placing."""
    if not isinstance(value, tuple) or not all(is_named_cell(item) for item in value):
        return False
    names = [name for name, cell in value]
    lot = lot_of([cell for name, cell in value])
    return names == sorted({name: True for name in names}) and len(lot) == len(names) and lot_hangs(lot)


def body_under(places):
    """The body of the cells of a placing."""
    return body_in(names_by_cell(places))


def placed(body, names):
    """The placing with these names on the squares of a body, in their order."""
    lot = lot_of_body(body)
    for name in names:
        if not is_name(name):
            raise BadName(name)
    met = {}
    for name in names:
        if name in met:
            raise TakenName(name)
        met[name] = True
    if len(met) != len(lot):
        raise BadNumber("names", len(met))
    return placing_in({square: str(name) for square, name in zip(lot, met)})


def named_behind(places, plan):
    """The placing behind a plan of its body."""
    names = names_by_cell(places)
    return placing_in(names_behind(names, checked_moves(body_in(names), plan)))


def order_of(places):
    """The tuple of the names from the west to the east if the body is a row, otherwise None."""
    names = names_by_cell(places)
    body = body_in(names)
    if body != row_at(body[0], len(body)):
        return None
    return tuple([names[square] for square in body])


def turned_row(first, n):
    """A plan that takes the first square of a row behind its last one."""
    return crawl(checked_cell(first), checked_many(n, 3), 1)


def held_row(first, n):
    """A plan that takes the second square of a row behind its last one, and the first one a cell on."""
    start = checked_cell(first)
    trail = Trail(row_at(start, checked_many(n, 3)))
    last = (start[0] + n - 1, start[1])
    second = shifted(start, EAST)
    trail.go(start, shifted(last, NORTH))
    trail.go(second, shifted(last, EAST))
    trail.go(shifted(last, NORTH), second)
    return tuple(trail.moves)


def sorting(order, wished):
    """The tuple of the steps that make an order as it is wished."""
    names = checked_order(order)
    if not is_order(wished) or sorted(wished) != sorted(names):
        raise BadNumber("wished", wished)
    places = {name: place for place, name in enumerate(wished)}
    steps = []
    for _ in range(len(names) - 1):
        for _ in range(len(names) - 1):
            step = TURN if places[names[0]] < places[names[1]] else HOLD
            names = names_behind_step(names, step)
            steps.append(step)
        names = names_behind_step(names, TURN)
        steps.append(TURN)
    return tuple(steps)


def order_behind(order, steps):
    """The order behind some steps."""
    names = checked_order(order)
    if not isinstance(steps, (list, tuple)) or not all(step in (TURN, HOLD) for step in steps):
        raise BadNumber("steps", steps)
    for step in steps:
        names = names_behind_step(names, step)
    return tuple(names)


def can_become(places, goals):
    """Whether a plan brings each name to the cell that goals tells."""
    check_names(places, goals)
    return hindrance(places, goals) is None


def plan_named(places, goals):
    """A plan behind which each name lies where goals tells."""
    check_plan(places, goals)
    if places == goals:
        return ()
    if len(places) == 2:
        return plan_between(body_under(places), body_under(goals))
    return plan_by_rows(places, goals)


def bound_named(places, goals):
    """A number of moves that is enough to bring each name where goals tells."""
    check_plan(places, goals)
    if places == goals:
        return 0
    body = body_under(places)
    other = body_under(goals)
    n = len(body)
    if n == 2:
        return bound_between(body, other)
    wide, high = extent_of(body + other)
    steps = n * (n - 1)
    return bound_of(body) + bound_of(other) + n * (3 * n + wide + high + steps) + 3 * n * steps


def is_named_cell(value):
    """Whether a value is a pair of a NAME and a cell."""
    return isinstance(value, tuple) and len(value) == 2 and is_name(value[0]) and is_cell(value[1])


def names_by_cell(places):
    """A dict of the names of a placing by their cells; BadBody if it is none."""
    if not is_placing(places):
        raise BadBody(places)
    return {plain_cell(cell): str(name) for name, cell in places}


def placing_in(names):
    """The placing with the names of a dict by their cells."""
    return tuple(sorted([(names[cell], cell) for cell in names]))


def names_behind(names, moves):
    """A dict of the names by their cells behind moves that are a plan."""
    told = {cell: names[cell] for cell in names}
    for start, end in moves:
        told[end] = told.pop(start)
    return told


def is_order(value):
    """Whether a value is a list or tuple of three unlike NAMEs or more."""
    if not isinstance(value, (list, tuple)) or len(value) < 3 or not all(is_name(item) for item in value):
        return False
    return len({name: True for name in value}) == len(value)


def checked_order(order):
    """The list of the names of an order; BadNumber if it is none."""
    if not is_order(order):
        raise BadNumber("order", order)
    return [str(name) for name in order]


def names_behind_step(names, step):
    """The list of names behind a step: the first one, or the second one, goes to the end."""
    if step == TURN:
        return names[1:] + names[:1]
    return names[:1] + names[2:] + names[1:2]


def check_names(places, goals):
    """BadBody for a value that is no placing, and for goals with other names."""
    names = names_by_cell(places)
    others = names_by_cell(goals)
    if sorted(names.values()) != sorted(others.values()):
        raise BadBody(goals)


def hindrance(places, goals):
    """The pair (what, name) for the least name that comes to no such cell; None if a plan is there."""
    for (name, start), (_, end) in zip(places, goals):
        if len(places) == 1 and start != end:
            return ("place", str(name))
        if len(places) == 2 and colour(start) != colour(end):
            return ("colour", str(name))
    return None


def colour(cell):
    """The colour of a cell: one of two, as on a chessboard."""
    return (cell[0] + cell[1]) % 2


def check_plan(places, goals):
    """The errors of plan_named."""
    check_names(places, goals)
    found = hindrance(places, goals)
    if found is not None:
        raise NotKept(found[0], found[1])


def plan_by_rows(places, goals):
    """The plan between two placings of three names or more: to a row, sorted there, and from a row."""
    n = len(places)
    rowed = plan_to_row(body_under(places))
    goal = plan_to_row(body_under(goals))
    first = (goal.row[0][0] - n * (n - 1), goal.row[0][1])
    moves = list(rowed.moves + row_plan(rowed.row[0], first, n))
    order = order_of(named_behind(places, moves))
    wished = order_of(named_behind(goals, goal.moves))
    for step in sorting(order, wished):
        moves.extend(turned_row(first, n) if step == TURN else held_row(first, n))
        first = shifted(first, EAST)
    return tuple(moves) + back(goal.moves)
