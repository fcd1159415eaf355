"""Small bodies: all shapes of a few squares, and how many moves lead from one to another."""

from slideinto.bodies import frame_of, lot_of_body, shape_of
from slideinto.cells import body_in, four_beside, is_whole, lot_of, put
from slideinto.errors import BadNumber
from slideinto.moves import moves_of

MOST = 7
MOST_FOR_FARTHEST = 5


class Least:
    """A shortest plan to the shape of another body, and the pair by which the other one is moved to be its end."""

    def __init__(self, plan, by):
        self.plan = plan
        self.by = by


def all_shapes(n):
    """The ascending tuple of all shapes of n squares."""
    return tuple(shapes_in(checked_size(n, MOST)))


def layers(body):
    """The tuple of the shapes at the distances 0, 1, .. from a body, each an ascending tuple."""
    lot_of_body(body)
    checked_size(len(body), MOST)
    return tuple([tuple(layer) for layer in layers_from(shape_of(body))])


def least_plan(body, other):
    """A plan with as few moves as there are from a body to another one, moved or not."""
    place = body_in(lot_of_body(body))
    lot_of_body(other)
    checked_size(len(body), MOST)
    if len(other) != len(body):
        raise BadNumber("n", len(other))
    distances = distances_from(shape_of(other))
    plan = []
    for _ in range(distances[shape_of(place)]):
        move = move_nearer(place, distances)
        plan.append(move)
        place = body_behind(place, move)
    end = frame_of(place)
    goal = frame_of(other)
    return Least(tuple(plan), (end[0] - goal[0], end[1] - goal[1]))


def farthest(n):
    """The greatest distance of two bodies of n squares, and the least pair of shapes that have it."""
    found = None
    for shape in shapes_in(checked_size(n, MOST_FOR_FARTHEST)):
        told = layers_from(shape)
        distance = len(told) - 1
        # Shapes come in their order, so of equal distances the first one stands in the least pair.
        if found is None or distance > found[0]:
            found = (distance, shape, told[-1][0])
    return found


def checked_size(n, most):
    """A number of squares; BadNumber if it is no integer from 1 to the most."""
    if not is_whole(n) or not 1 <= n <= most:
        raise BadNumber("n", n)
    return n


def shapes_in(many):
    """The ascending list of all shapes of so many squares."""
    shapes = [((0, 0),)]
    for _ in range(many - 1):
        shapes = grown_shapes(shapes)
    return shapes


def grown_shapes(shapes):
    """The ascending list of all shapes with one square more than these, if these are all of their size."""
    found = {}
    for shape in shapes:
        for square in shape:
            for near in four_beside(square):
                if near not in shape:
                    found[shape_of(tuple(sorted([*shape, near])))] = True
    return sorted(found)


def body_behind(body, move):
    """The body behind a move of it."""
    lot = lot_of(body)
    put(lot, move[0], move[1])
    return body_in(lot)


def layers_from(shape):
    """The list of the ascending lists of the shapes at the distances 0, 1, .. from a shape."""
    met = {shape: True}
    layer = [shape]
    told = []
    while layer:
        told.append(layer)
        after = []
        for place in layer:
            for move in moves_of(place):
                near = shape_of(body_behind(place, move))
                if near not in met:
                    met[near] = True
                    after.append(near)
        layer = sorted(after)
    return told


def distances_from(shape):
    """A dict that tells the distance of each shape of as many squares from a shape."""
    return {place: distance for distance, layer in enumerate(layers_from(shape)) for place in layer}


def move_nearer(body, distances):
    """The least move that leads to a shape with a lesser distance."""
    distance = distances[shape_of(body)]
    for move in moves_of(body):
        if distances[shape_of(body_behind(body, move))] < distance:
            return move
    return None
