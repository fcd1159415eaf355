"""Bodies for the tests, and what the document says of them, told a second time in the plainest way."""

import unittest

SIDES = ((-1, 0), (0, -1), (1, 0), (0, 1))


def add(one, two):
    return (one[0] + two[0], one[1] + two[1])


def cells_beside(cell):
    return {add(cell, side) for side in SIDES}


def plain_parts(cells):
    """The parts as sets: cell after cell joins all parts it lies beside."""
    parts = []
    for cell in set(cells):
        beside = cells_beside(cell)
        joined = [part for part in parts if part & beside]
        parts = [part for part in parts if not part & beside]
        parts.append({cell}.union(*joined))
    return parts


def plain_free(body):
    return tuple(square for square in body if len(plain_parts(set(body) - {square})) == 1)


def plain_kind(body, start, end):
    squares = set(body)
    if start not in squares or end in squares or len(plain_parts(squares - {start})) != 1:
        return None
    way = (end[0] - start[0], end[1] - start[1])
    if way in SIDES:
        crosswise = [side for side in SIDES if side[0] * way[0] + side[1] * way[1] == 0]
        if any(add(start, side) in squares and add(end, side) in squares for side in crosswise):
            return "slide"
    if abs(way[0]) == abs(way[1]) == 1:
        if len(cells_beside(start) & cells_beside(end) & squares) == 1:
            return "turn"
    return None


def all_shapes(most):
    """All bodies of one to so many squares whose least column and row are 0, ascending by their numbers."""
    shapes = [((0, 0),)]
    told = list(shapes)
    while len(shapes[0]) < most:
        grown = set()
        for shape in shapes:
            for square in shape:
                for side in SIDES:
                    if add(square, side) not in shape:
                        grown.add(shape_at_zero(shape + (add(square, side),)))
        shapes = sorted(grown)
        told += shapes
    return told


def shape_at_zero(cells):
    column = min(cell[0] for cell in cells)
    row = min(cell[1] for cell in cells)
    return tuple(sorted((cell[0] - column, cell[1] - row) for cell in cells))


def row(many, first=(0, 0)):
    return tuple((first[0] + k, first[1]) for k in range(many))


def block(wide, high):
    return tuple((column, up) for column in range(wide) for up in range(high))


def ring(wide, high):
    return tuple(cell for cell in block(wide, high) if cell[0] in (0, wide - 1) or cell[1] in (0, high - 1))


def spiral(many):
    """A corridor of squares that winds outward, with empty lanes between."""
    cell = (0, 0)
    cells = [cell]
    turn = 0
    while len(cells) < many:
        for _ in range(2 * (turn // 2 + 1)):
            cell = add(cell, ((1, 0), (0, 1), (-1, 0), (0, -1))[turn % 4])
            cells.append(cell)
        turn += 1
    return tuple(sorted(cells[:many]))


def grown(many, seed):
    """A body that grows at places that look as if they came by chance, the same ones each time."""
    cells = [(0, 0)]
    number = seed
    while len(cells) < many:
        number = drawn(number)
        cell = add(cells[(number >> 8) % len(cells)], SIDES[(number >> 4) % 4])
        if cell not in cells:
            cells.append(cell)
    return tuple(sorted(cells))


def path(first, ways):
    """The body of a way through cells that goes to the E, N, W and S."""
    cells = [first]
    for way in ways:
        cells.append(add(cells[-1], SIDES["WSEN".index(way)]))
    return tuple(sorted(set(cells)))


def rolled():
    """A path that rolls itself in, its ends within, with a pocket that opens at a corner alone."""
    return path((2, 0), "WSSEEENNNNNNWWWWWWSSSEEN")


def rolled_twice():
    """A path like rolled, one end of which rolls itself in once more, within the pocket."""
    return path((2, 0), "WSSEEEE" + "N" * 13 + "W" * 8 + "S" * 10 + "EEENNNWNNNNNEEEESSSSWWNN")


def rolled_at_both_ends():
    """A path both ends of which roll themselves in once more, each within a pocket of its own."""
    one_end = "SSEENNNNWWWWSSSSSE" + "S" + "WWWWW"
    round_it = "SS" + "E" * 10 + "N" * 12 + "W" * 14 + "S" * 9 + "EEENN"
    return path((7, 4), one_end + round_it + "WNNNNNEEEESSSSWWNN")


def carved(wide, high, many, seed):
    """A block from which squares were taken until so many are left: a body with many regions and gaps."""
    body = block(wide, high)
    number = seed
    while len(body) > many:
        number = drawn(number)
        square = body[(number >> 8) % len(body)]
        rest = tuple(cell for cell in body if cell != square)
        if len(plain_parts(rest)) == 1:
            body = rest
    return body


def drawn(number):
    """The next of numbers that look as if they came by chance."""
    return (number * 1103515245 + 12345) % 2147483648


def drawn_plan(body, many, seed, moves_of, done):
    """A plan of so many moves that look as if they came by chance."""
    plan = []
    number = seed
    while len(plan) < many:
        moves = moves_of(body)
        number = drawn(number)
        plan.append(moves[(number >> 8) % len(moves)])
        body = done(body, *plan[-1])
    return tuple(plan)


def images(cell):
    """A cell turned and mirrored in all eight ways."""
    column, up = cell
    turned = [(column, up), (-up, column), (-column, -up), (up, -column)]
    return turned + [(across, other) for other, across in turned]


def image(body, way):
    """A body turned and mirrored in one of eight ways."""
    return tuple(sorted(images(square)[way] for square in body))


def frame_around(body, far):
    """The list of all cells of the frame of a body and of so many cells around it."""
    columns = [column for column, up in body]
    rows = [up for column, up in body]
    return [
        (column, up)
        for column in range(min(columns) - far, max(columns) + far + 1)
        for up in range(min(rows) - far, max(rows) + far + 1)
    ]


def plain_regions(body):
    """The regions as ascending tuples, the cells of the outside next to the frame first."""
    lots = plain_parts(set(frame_around(body, 1)) - set(body))
    corner = frame_around(body, 1)[0]
    outside = [lot for lot in lots if corner in lot]
    others = [lot for lot in lots if corner not in lot]
    return [tuple(sorted(lot)) for lot in outside] + sorted(tuple(sorted(lot)) for lot in others)


def large_bodies():
    """Bodies of 200 squares, by their names."""
    return {
        "row": row(200),
        "column": tuple((0, up) for up in range(200)),
        "ring": ring(52, 50),
        "spiral": spiral(200),
        "block": block(10, 20),
        "comb": tuple(sorted(row(100) + tuple((2 * k, 1 + up) for k in range(50) for up in range(2)))),
        "grown": grown(200, 7),
    }


def many_bodies():
    """All small shapes, and some of up to 60 squares."""
    larger = [grown(many, many) for many in range(7, 60, 4)]
    return all_shapes(6) + larger + [ring(3, 3), ring(6, 4), spiral(30), block(4, 5)]


NO_CELLS = (None, 0, "ab", "", [0, 0], (), (0,), (0, 0, 0), (True, 0), (0, False), (0, "1"), (None, 0), ((0, 0), 0), {})

NO_BODIES = (
    None, 0, "ab", (), [(0, 0)], [(0, 0), (1, 0)], ((0, 1), (0, 0)), ((0, 0), (0, 0)), ((0, 0), (2, 0)),
    ((0, 0), (1, 1)), ((True, 0),), ((0, 0), None), ((0, 0), [0, 1]), (0, 0), {}, 1.5,
)

NO_NUMBERS = (None, True, False, "1", "", (1,), [1], {}, 1.0)


class Case(unittest.TestCase):
    def assert_error(self, error, call, *values, **named):
        """A call raises an error with the told attributes, which are the passed values where they are no literals."""
        kind, *told = error
        with self.assertRaises(kind) as caught:
            call(*values, **named)
        self.assertIs(type(caught.exception), kind)
        kept = list(vars(caught.exception).values())
        self.assertEqual([type(value) for value in kept], [type(value) for value in told])
        self.assertEqual(kept, told)
