"""Bodies for the tests, and what the document says of them, told a second time in the plainest way."""

SIDES = ((-1, 0), (0, -1), (1, 0), (0, 1))


def add(one, two):
    return (one[0] + two[0], one[1] + two[1])


def cells_beside(cell):
    return {add(cell, side) for side in SIDES}


def plain_parts(cells):
    """The parts as sets: cell after cell joins all parts it lies beside."""
    parts = []
    for cell in set(cells):
        beside = cells_beside(cell)
        joined = [part for part in parts if part & beside]
        parts = [part for part in parts if not part & beside]
        parts.append({cell}.union(*joined))
    return parts


def plain_free(body):
    return tuple(square for square in body if len(plain_parts(set(body) - {square})) == 1)


def plain_kind(body, start, end):
    squares = set(body)
    if start not in squares or end in squares or len(plain_parts(squares - {start})) != 1:
        return None
    way = (end[0] - start[0], end[1] - start[1])
    if way in SIDES:
        crosswise = [side for side in SIDES if side[0] * way[0] + side[1] * way[1] == 0]
        if any(add(start, side) in squares and add(end, side) in squares for side in crosswise):
            return "slide"
    if abs(way[0]) == abs(way[1]) == 1:
        if len(cells_beside(start) & cells_beside(end) & squares) == 1:
            return "turn"
    return None


def all_shapes(most):
    """All bodies of one to so many squares whose least column and row are 0, ascending by their numbers."""
    shapes = [((0, 0),)]
    told = list(shapes)
    while len(shapes[0]) < most:
        grown = set()
        for shape in shapes:
            for square in shape:
                for side in SIDES:
                    if add(square, side) not in shape:
                        grown.add(shape_at_zero(shape + (add(square, side),)))
        shapes = sorted(grown)
        told += shapes
    return told


def shape_at_zero(cells):
    column = min(cell[0] for cell in cells)
    row = min(cell[1] for cell in cells)
    return tuple(sorted((cell[0] - column, cell[1] - row) for cell in cells))


def row(many, first=(0, 0)):
    return tuple((first[0] + k, first[1]) for k in range(many))


def block(wide, high):
    return tuple((column, up) for column in range(wide) for up in range(high))


def ring(wide, high):
    return tuple(cell for cell in block(wide, high) if cell[0] in (0, wide - 1) or cell[1] in (0, high - 1))


def spiral(many):
    """A corridor of squares that winds outward, with empty lanes between."""
    cell = (0, 0)
    cells = [cell]
    turn = 0
    while len(cells) < many:
        for _ in range(2 * (turn // 2 + 1)):
            cell = add(cell, ((1, 0), (0, 1), (-1, 0), (0, -1))[turn % 4])
            cells.append(cell)
        turn += 1
    return tuple(sorted(cells[:many]))


def grown(many, seed):
    """A body that grows at places that look as if they came by chance, the same ones each time."""
    cells = [(0, 0)]
    number = seed
    while len(cells) < many:
        number = (number * 1103515245 + 12345) % 2147483648
        cell = add(cells[(number >> 8) % len(cells)], SIDES[(number >> 4) % 4])
        if cell not in cells:
            cells.append(cell)
    return tuple(sorted(cells))


def large_bodies():
    """Bodies of 200 squares, by their names."""
    return {
        "row": row(200),
        "column": tuple((0, up) for up in range(200)),
        "ring": ring(52, 50),
        "spiral": spiral(200),
        "block": block(10, 20),
        "comb": tuple(sorted(row(100) + tuple((2 * k, 1 + up) for k in range(50) for up in range(2)))),
        "grown": grown(200, 7),
    }


def many_bodies():
    """All small shapes, and some of up to 60 squares."""
    larger = [grown(many, many) for many in range(7, 60, 4)]
    return all_shapes(6) + larger + [ring(3, 3), ring(6, 4), spiral(30), block(4, 5)]


NO_CELLS = (None, 0, "ab", "", [0, 0], (), (0,), (0, 0, 0), (True, 0), (0, False), (0, "1"), (None, 0), ((0, 0), 0), {})
