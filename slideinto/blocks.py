"""Blocks: the filled body, its joints and blocks, and squares that can surely move."""

from slideinto.bodies import lot_of_body
from slideinto.borders import doors_in, hung_in, region_from, rings_in
from slideinto.cells import body_in, checked_lot, depth_first, lot_of, lowest_met, near_in, rest_counts


def filled(body):
    """The ascending tuple of the squares and of all cells of regions that do not hang on the outside."""
    return body_in(filled_in(lot_of_body(body)))


def shut_lots(body):
    """The ascending tuple of the lots of numbers of shut regions that gaps join, each an ascending tuple."""
    lot = lot_of_body(body)
    doors = doors_in(lot)
    met = {}
    lots = []
    for number in shut_numbers(lot):
        if number not in met:
            joined_with = numbers_through(doors, number)
            lots.append(tuple(sorted(joined_with)))
            for other in joined_with:
                met[other] = True
    return tuple(lots)


def corner_counts(cells):
    """How many corners have just one of some cells, just two that lie crosswise, and just three."""
    lot = checked_lot(cells)
    corners = lot_of([(column + across, row + up) for column, row in lot for across in (0, 1) for up in (0, 1)])
    single = 0
    crosswise = 0
    triple = 0
    for column, row in corners:
        low = [(column + across, row - 1) in lot for across in (-1, 0)]
        high = [(column + across, row) in lot for across in (-1, 0)]
        many = sum(low) + sum(high)
        if many == 1:
            single += 1
        elif many == 3:
            triple += 1
        elif many == 2 and low[0] == high[1]:
            crosswise += 1
    return (single, crosswise, triple)


def joints_of(body):
    """The ascending tuple of the cells of the filled body without which the others fall apart."""
    return tuple(joints_in(filled_in(lot_of_body(body))))


def blocks_of(body):
    """The ascending tuple of the blocks of the filled body, each an ascending tuple."""
    return tuple(blocks_in(filled_in(lot_of_body(body))))


def outermost(body):
    """The tuple of the blocks with at most one joint."""
    return tuple(outermost_in(filled_in(lot_of_body(body))))


def sure_movers(body):
    """The tuple of the pairs (block, squares) of the outermost blocks and the squares that surely can move."""
    lot = lot_of_body(body)
    if len(lot) == 1:
        return ()
    full = filled_in(lot)
    joints = joints_in(full)
    return tuple([(block, movers_in(full, block, joints)) for block in outermost_in(full)])


def shut_numbers(lot):
    """The ascending list of the numbers of the regions that do not hang on the outside."""
    hanging = hung_in(lot)
    return [number for number in range(len(rings_in(lot))) if number not in hanging]


def filled_in(lot):
    """The lot of the filled body."""
    rings = rings_in(lot)
    full = {square: True for square in lot}
    for number in shut_numbers(lot):
        for cell in region_from(lot, rings[number][0][0]):
            full[cell] = True
    return full


def numbers_through(doors, number):
    """A dict of the numbers of all regions to which gaps, one behind the other, lead from a region."""
    found = {number: True}
    ahead = [number]
    while ahead:
        place = ahead.pop()
        for other, _ in doors.get(place, []):
            if other not in found:
                found[other] = True
                ahead.append(other)
    return found


def joints_in(full):
    """The ascending list of the joints of a filled body."""
    counts = rest_counts(full)
    return sorted([cell for cell in counts if counts[cell] > 1])


def blocks_in(full):
    """The ascending list of the blocks of a filled body."""
    came_from = depth_first(full)
    numbers = {cell: number for number, cell in enumerate(came_from)}
    lowest = lowest_met(full, came_from, numbers)
    blocks = []
    # The block to which a cell and the one that led to it belong. A new one begins where nothing that was
    # found from the cell meets what lies ahead of the one that led to it.
    places = {}
    for cell, before in came_from.items():
        if before is not None:
            if lowest[cell] == numbers[before]:
                places[cell] = len(blocks)
                blocks.append([before, cell])
            else:
                places[cell] = places[before]
                blocks[places[cell]].append(cell)
    return sorted([tuple(sorted(block)) for block in blocks]) if blocks else [body_in(full)]


def outermost_in(full):
    """The ascending list of the blocks of a filled body with at most one joint."""
    joints = joints_in(full)
    return [block for block in blocks_in(full) if len([cell for cell in block if cell in joints]) < 2]


def movers_in(full, block, joints):
    """The ascending tuple of the cells of a block that are no joints and stand at an end or a corner."""
    return tuple([cell for cell in block if cell not in joints and is_tip(full, cell)])


def is_tip(full, cell):
    """Whether a cell has just one neighbour in a filled body, or just two that lie at a right angle."""
    near = near_in(full, cell)
    if len(near) == 2:
        return near[0][0] != near[1][0] and near[0][1] != near[1][1]
    return len(near) == 1
