"""Ties: moves with witnesses, and which of them wait for which."""

from slideinto.cells import body_in, four_beside, is_cell, is_whole, lot_hangs, lot_of, lot_without, near_in
from slideinto.cells import plain_cell, put, shifted
from slideinto.errors import BadBody, BadNumber, NotKept, NotThere
from slideinto.plans import checked_moves


class Step:
    """A move with its paper: the squares that it needs, and squares that hang together without the one that goes."""

    def __init__(self, start, end, support, witness):
        self.start = start
        self.end = end
        self.support = support
        self.witness = witness


def holds(body, step):
    """Whether a step holds for a body."""
    return holds_in(lot_of(body), step)


def first_loose(body, steps):
    """The index of the first step that does not hold for the body behind those ahead of it; None if all do."""
    lot = lot_of(body)
    for index, step in enumerate(steps):
        if not holds_in(lot, step):
            return index
        put(lot, plain_cell(step.start), plain_cell(step.end))
    return None


def plan_of(steps):
    """The tuple of the moves of some steps."""
    return tuple([(plain_cell(step.start), plain_cell(step.end)) for step in steps])


def witness_of(body, start):
    """The witness that is told for a free square: ways that join its neighbours without it."""
    lot = lot_of(body)
    if not is_cell(start) or plain_cell(start) not in lot:
        raise NotThere(start)
    rest = lot_without(lot, plain_cell(start))
    if not lot_hangs(rest):
        raise BadBody(body_in(rest))
    return witness_in(rest, plain_cell(start))


def steps_of(body, plan):
    """The tuple of the steps of a plan, each with the witness that is told for the body ahead of it."""
    moves = checked_moves(body, plan)
    lot = lot_of(body)
    steps = []
    for start, end in moves:
        support = min(supports_in(lot, start, end))
        steps.append(Step(start, end, support, witness_in(lot_without(lot, start), start)))
        put(lot, start, end)
    return tuple(steps)


def reads_of(step):
    """The ascending tuple of the cells that a step reads."""
    return body_in(reads_in(step))


def are_tied(one, two):
    """Whether one of two steps goes from or to a cell that the other one reads."""
    return goes_through(one, reads_in(two)) or goes_through(two, reads_in(one))


def ties_of(steps):
    """The ascending tuple of the pairs of the indexes of tied steps, the lesser index first."""
    pairs = [(one, two) for two, ties in enumerate(ties_back(steps)) for one in ties]
    return tuple(sorted(pairs))


def first_broken(steps, order):
    """The first pair of tied steps that stand the other way round in an order; None if it keeps the ties."""
    places = {index: place for place, index in enumerate(checked_order(steps, order))}
    for one, two in ties_of(steps):
        if places[two] < places[one]:
            return (one, two)
    return None


def in_order(steps, order):
    """The tuple of the steps in an order that keeps the ties."""
    broken = first_broken(steps, order)
    if broken is not None:
        raise NotKept("tie", broken)
    return tuple([steps[index] for index in order])


def order_by(steps, numbers):
    """The order that keeps the ties in which numbers tell which of the steps that can come next does so."""
    ties = ties_back(steps)
    many_left = [len(earlier) for earlier in ties]
    after = ties_ahead(ties)
    ready = [index for index, many in enumerate(many_left) if many == 0]
    order = []
    while ready:
        turn = len(order)
        number = numbers[turn] if turn < len(numbers) else 0
        chosen = ready.pop(number % len(ready))
        order.append(chosen)
        for later in after[chosen]:
            many_left[later] -= 1
            if many_left[later] == 0:
                ready.append(later)
        ready = sorted(ready)
    return tuple(order)


def rounds_of(steps):
    """The tuple of the rounds: lots of steps that wait for none but those of the rounds ahead."""
    rounds = []
    places = []
    for index, earlier in enumerate(ties_back(steps)):
        place = 1 + max([places[other] for other in earlier], default=-1)
        places.append(place)
        if place == len(rounds):
            rounds.append([])
        rounds[place].append(index)
    return tuple([tuple(lot) for lot in rounds])


def holds_in(lot, step):
    """Whether a step holds for the body with the squares of this lot."""
    if step.start not in lot or step.end in lot:
        return False
    return step.support in supports_in(lot, step.start, step.end) and is_witness_in(lot, step)


def supports_in(lot, start, end):
    """The list of the supports on which a square can go from start to end, beside start or crosswise from it."""
    across = end[0] - start[0]
    up = end[1] - start[1]
    if abs(across) + abs(up) == 1:
        sides = ((up, across), (-up, -across))
        pairs = [tuple(sorted([shifted(start, side), shifted(end, side)])) for side in sides]
        return [(one, two) for one, two in pairs if one in lot and two in lot]
    if abs(across) == 1 and abs(up) == 1:
        corners = [corner for corner in ((start[0], end[1]), (end[0], start[1])) if corner in lot]
        return [(corners[0],)] if len(corners) == 1 else []
    return []


def is_witness_in(lot, step):
    """Whether the witness of a step is told rightly for the body with the squares of this lot."""
    witness = lot_of(step.witness)
    if step.start in witness or not all(square in lot for square in witness):
        return False
    return lot_hangs(witness) and all(near in witness for near in near_in(lot, step.start))


def witness_in(rest, start):
    """The witness for a square at start, by the lot of the others, which hang together."""
    around = sorted(near_in(rest, start))
    distances = distances_in(rest, around)
    found = {around[0]: True}
    for neighbour in around[1:]:
        place = neighbour
        # Where two ways meet they are one from there on.
        while place not in found:
            found[place] = True
            nearer = distances[place] - 1
            place = min([near for near in near_in(rest, place) if distances.get(near) == nearer])
    return body_in(found)


def distances_in(rest, around):
    """A dict that tells how far cells of a lot are from the first one of some, as far as the farthest of these."""
    distances = {around[0]: 0}
    layer = [around[0]]
    while not all(place in distances for place in around):
        after = []
        for cell in layer:
            for near in near_in(rest, cell):
                if near not in distances:
                    distances[near] = distances[cell] + 1
                    after.append(near)
        layer = after
    return distances


def reads_in(step):
    """The lot of the cells that a step reads."""
    return lot_of([step.start, step.end, *four_beside(step.start), *step.support, *step.witness])


def goes_through(step, cells):
    """Whether a step goes from or to a cell of a lot."""
    return step.start in cells or step.end in cells


def ties_back(steps):
    """For each step the ascending list of the lesser indexes of the steps with which it is tied."""
    readers = {}
    goers = {}
    told = []
    for index, step in enumerate(steps):
        ends = (step.start, step.end)
        reads = reads_in(step)
        tied = {other: True for cell in ends for other in readers.get(cell, [])}
        for cell in reads:
            for other in goers.get(cell, []):
                tied[other] = True
            readers.setdefault(cell, []).append(index)
        for cell in ends:
            goers.setdefault(cell, []).append(index)
        told.append(sorted(tied))
    return told


def ties_ahead(ties):
    """For each step the list of the greater indexes of the steps with which it is tied."""
    after = [[] for earlier in ties]
    for index, earlier in enumerate(ties):
        for other in earlier:
            after[other].append(index)
    return after


def checked_order(steps, order):
    """An order of the indexes of some steps; BadNumber if it is none."""
    if not isinstance(order, (list, tuple)) or not all(is_whole(index) for index in order):
        raise BadNumber("order", order)
    if sorted(order) != list(range(len(steps))):
        raise BadNumber("order", order)
    return order
