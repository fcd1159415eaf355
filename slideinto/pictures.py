"""Pictures: rows of signs, one for each cell of a frame."""

EMPTY = "."


def picture_in(frame, signs):
    """The tuple of the rows of a frame, the highest one first, with the sign of each cell that has one."""
    west, south, east, north = frame
    columns = range(west, east + 1)
    rows = [[signs.get((column, row), EMPTY) for column in columns] for row in range(south, north + 1)]
    return tuple(["".join(row) for row in rows[::-1]])


def signs_in(rows, corner):
    """A dict of the signs of a picture but the empty ones by their cells; the last row begins at the corner."""
    column, low = corner
    signs = {}
    for up, row in enumerate(rows[::-1]):
        for across, sign in enumerate(row):
            if sign != EMPTY:
                signs[(column + across, low + up)] = sign
    return signs
