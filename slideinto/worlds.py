"""Worlds: a body that is to become another one, and what happens to it."""

from slideinto.bodies import body_of
from slideinto.cells import body_in, is_whole, lot_of, plain_cell, put
from slideinto.errors import BadBody, BadCell, BadNumber, NoMove, NotThere
from slideinto.joining import bound_between, lie, plan_between, stand
from slideinto.moves import done
from slideinto.rows import plan_to_row

# How many items a deed with this word has.
DEEDS = {"move": 3, "go": 2, "aim": 2}


class World:
    """A body that is to become another one."""

    def __init__(self, body, target):
        self.body = body_of(body)
        self.target = checked_target(self.body, target)
        self._moves = []
        # The plan that is kept, None for none, and how many of its moves were done.
        self._plan = None
        self._many = 0

    def move(self, start, end):
        """The square at start moves to end."""
        self.body = done(self.body, start, end)
        self._moves.append((plain_cell(start), plain_cell(end)))
        self._plan = None

    def go(self, many):
        """Does so many moves of the plan, or as many as it has yet; returns how many."""
        if not is_whole(many) or many < 0:
            raise BadNumber("many", many)
        if self._plan is None:
            self._plan = plan_up_to(self.body, self.target)
            self._many = 0
        moves = self._plan[self._many:self._many + many]
        self.body = body_behind(self.body, moves)
        self._moves.extend(moves)
        self._many += len(moves)
        return len(moves)

    def aim(self, target):
        """Another body is the target."""
        self.target = checked_target(self.body, target)
        self._plan = None

    def plan(self):
        """The tuple of the moves that go would do, up to the end of the plan."""
        if self._plan is None:
            return plan_up_to(self.body, self.target)
        return self._plan[self._many:]

    def is_there(self):
        """Whether the body is the target."""
        return self.body == self.target

    def history(self):
        """The tuple of all moves that were done."""
        return tuple(self._moves)

    def bound(self):
        """A number of moves that is enough from the body to the target."""
        return bound_between(self.body, self.target)


def played(body, target, deeds):
    """The World behind the deeds of a story."""
    world = World(body, target)
    for deed in checked_deeds(deeds):
        do_deed(world, deed)
    return world


def refused(body, target, deeds):
    """The pair (index, word) of the first deed of a story that raises an error; None if none does."""
    world = World(body, target)
    for index, deed in enumerate(checked_deeds(deeds)):
        word = refusal(world, deed)
        if word is not None:
            return (index, word)
    return None


def meet(bodies):
    """The pair of the body to which all others of a list come with the fewest moves, and the plans."""
    places = checked_bodies(bodies)
    sums = move_sums(places)
    target = places[sums.index(min(sums))]
    return (target, tuple([plan_between(place, target) for place in places]))


def checked_target(body, target):
    """A target of a body, as body_of tells it; BadNumber or BadBody if the body never becomes it."""
    goal = body_of(target)
    if len(goal) != len(body):
        raise BadNumber("squares", len(goal))
    if len(goal) == 1 and goal != body:
        raise BadBody(goal)
    return goal


def plan_up_to(body, target):
    """The plan between two bodies up to the first body that is the target."""
    goal = lot_of(target)
    missing = len([square for square in body if square not in goal])
    plan = plan_between(body, target)
    for index, (start, end) in enumerate(plan):
        if missing == 0:
            return plan[:index]
        if start in goal:
            missing += 1
        if end in goal:
            missing -= 1
    return plan


def body_behind(body, moves):
    """The body behind moves that are a plan of it."""
    lot = lot_of(body)
    for start, end in moves:
        put(lot, start, end)
    return body_in(lot)


def checked_deeds(deeds):
    """The deeds of a story; BadNumber if they are no tuple of such."""
    if not isinstance(deeds, tuple) or not all(is_deed(deed) for deed in deeds):
        raise BadNumber("deeds", deeds)
    return deeds


def is_deed(value):
    """Whether a value is a tuple of a told word and as many items as told."""
    if not isinstance(value, tuple) or len(value) == 0 or not isinstance(value[0], str):
        return False
    return DEEDS.get(value[0]) == len(value)


def do_deed(world, deed):
    """Does a deed on a World; returns what it returns."""
    if deed[0] == "move":
        return world.move(deed[1], deed[2])
    if deed[0] == "go":
        return world.go(deed[1])
    return world.aim(deed[1])


def refusal(world, deed):
    """Does a deed on a World; the word for the error that it raises, None if it raises none."""
    try:
        do_deed(world, deed)
    except BadCell:
        return "cell"
    except NotThere:
        return "there"
    except NoMove:
        return "move"
    except BadBody:
        return "body"
    except BadNumber:
        return "number"
    return None


def checked_bodies(bodies):
    """The list of the bodies of a list, as body_of tells them; BadNumber if they cannot all become the same."""
    if not isinstance(bodies, (list, tuple)) or len(bodies) == 0:
        raise BadNumber("bodies", bodies)
    places = [body_or_none(cells) for cells in bodies]
    first = places[0]
    for place in places:
        if place is None or len(place) != len(first) or (len(first) == 1 and place != first):
            raise BadNumber("bodies", bodies)
    return places


def body_or_none(cells):
    """The body of a list of cells, None if it is none."""
    if not isinstance(cells, (list, tuple)):
        return None
    try:
        return body_of(cells)
    except (BadCell, BadBody):
        return None


def move_sums(places):
    """For each of some bodies the number of moves of the plans of all others to it."""
    rows = {place: plan_to_row(place) for place in places}
    upright = upright_moves(len(places[0]))
    sums = []
    for place in places:
        others = [other for other in places if other != place]
        sums.append(sum([many_between(rows[other], rows[place], upright) for other in others]))
    return sums


def upright_moves(n):
    """How many moves make a column of a row of n squares, and a row of it again."""
    return len(stand((0, 0), n)) + len(lie((0, 0), n)) if n > 1 else 0


def many_between(rowed, goal, upright):
    """The number of moves of the plan between two bodies, by their plans to a row."""
    # The row_plan between their rows is not made: rows crawl and columns climb n moves for each cell.
    n = len(rowed.row)
    one = rowed.row[0]
    other = goal.row[0]
    many = len(rowed.moves) + len(goal.moves)
    if one[1] == other[1]:
        return many + n * abs(other[0] - one[0])
    low, high = sorted([one, other], key=lambda cell: cell[1])
    return many + upright + n * (high[1] - low[1] + abs(high[0] - low[0] - n + 1))
