"""Bodies: ascending tuples of unlike cells that hang together."""

from slideinto.cells import checked_cell, checked_lot, flood, four_beside, free_in, is_cell, lot_hangs, lot_of
from slideinto.cells import near_in, rest_counts, shifted
from slideinto.errors import BadBody


def beside(cell):
    """The tuple of the four cells beside a cell: to the west, south, east and north."""
    return four_beside(checked_cell(cell))


def parts_of(cells):
    """The ascending tuple of the parts of a list of cells, each an ascending tuple."""
    lot = checked_lot(cells)
    met = {}
    parts = []
    for cell in sorted(lot):
        if cell not in met:
            part = sorted(flood(lot, cell))
            parts.append(tuple(part))
            for square in part:
                met[square] = True
    return tuple(parts)


def hangs(cells):
    """Whether a list of cells has just one part."""
    return lot_hangs(checked_lot(cells))


def is_body(value):
    """Whether a value, whatever it is, is a body."""
    if not isinstance(value, tuple) or not all(is_cell(item) for item in value):
        return False
    lot = lot_of(value)
    return list(value) == sorted(lot) and lot_hangs(lot)


def lot_of_body(value):
    """The lot of the squares of a body; BadBody for a value that is none."""
    if not is_body(value):
        raise BadBody(value)
    return lot_of(value)


def body_of(cells):
    """The body of these cells, which may come in any order and more than once."""
    lot = checked_lot(cells)
    body = tuple(sorted(lot))
    if not lot_hangs(lot):
        raise BadBody(body)
    return body


def neighbours_of(body, cell):
    """The ascending tuple of the squares beside a cell, whether it is a square or empty."""
    return tuple(sorted(near_in(lot_of(body), checked_cell(cell))))


def free_squares(body):
    """The ascending tuple of the squares without which the others hang together."""
    return tuple(free_in(lot_of(body)))


def cut_squares(body):
    """The ascending tuple of the squares without which the others fall apart."""
    counts = rest_counts(lot_of(body))
    return tuple(sorted([square for square in counts if counts[square] > 1]))


def frame_of(body):
    """The tuple of the least column, the least row, the greatest column and the greatest row."""
    lot = lot_of(body)
    columns = [column for column, row in lot]
    rows = [row for column, row in lot]
    return (min(columns), min(rows), max(columns), max(rows))


def moved(body, by):
    """The body with each square shifted by the tuple (across, up)."""
    shift = checked_cell(by)
    return tuple([shifted(square, shift) for square in lot_of(body)])


def shape_of(body):
    """The moved body whose least column and least row are 0."""
    frame = frame_of(body)
    return moved(body, (-frame[0], -frame[1]))
