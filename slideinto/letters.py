"""Letters: pictures of placings, with the first sign of each name."""

from slideinto.bodies import frame_of
from slideinto.cells import body_in, checked_cell
from slideinto.errors import BadBody, BadText
from slideinto.named import is_placing, names_behind, names_by_cell, placing_in
from slideinto.pictures import EMPTY, picture_in, signs_in
from slideinto.plans import checked_moves
from slideinto.texts import LETTERS


def lettered(places):
    """The picture of a placing, the highest row first."""
    names = names_by_cell(places)
    return picture_in(frame_of(body_in(names)), first_signs(names))


def placing_of(rows, corner):
    """The placing of a picture of letters, the first sign of the last row of which is the cell corner."""
    if not isinstance(rows, (list, tuple)) or len(rows) == 0 or not all(isinstance(row, str) for row in rows):
        raise BadText(0, 0)
    place = checked_cell(corner)
    check_rows(rows)
    places = placing_in(signs_in(rows, place))
    if not is_placing(places):
        raise BadBody(places)
    return places


def film(places, plan):
    """The tuple of the pictures ahead of the first move of a plan and behind each one, all in one frame."""
    names = names_by_cell(places)
    moves = checked_moves(body_in(names), plan)
    stages = [names]
    for move in moves:
        stages.append(names_behind(stages[-1], [move]))
    frame = frame_of([cell for stage in stages for cell in stage])
    return tuple([picture_in(frame, first_signs(stage)) for stage in stages])


def first_signs(names):
    """A dict of the first signs of names by their cells."""
    return {cell: names[cell][0] for cell in names}


def check_rows(rows):
    """BadText for the first wrong sign in the first row of a picture that has one."""
    met = {}
    for line, row in enumerate(rows, start=1):
        column = wrong_sign(row, len(rows[0]), met)
        if column is not None:
            raise BadText(line, column)
        for sign in row:
            met[sign] = True


def wrong_sign(row, wide, met):
    """The number of the first wrong, missing or needless sign of a row, None if there is none."""
    for index, sign in enumerate(row):
        if index == wide or not is_right_sign(sign, row[:index], met):
            return index + 1
    return len(row) + 1 if len(row) < wide or wide == 0 else None


def is_right_sign(sign, ahead, met):
    """Whether a sign is that of an empty cell, or a letter that does not stand ahead of it."""
    return sign == EMPTY or (sign in LETTERS and sign not in ahead and sign not in met)
