"""Borders: the regions of empty cells around a body, the sides along them and the gaps between them.

A side is a pair (cell, square) of an empty cell and a square beside it. The sides of each region follow each
other in one ring, so a region is known by its ring, without its cells being gone over.
"""

from slideinto.bodies import lot_of_body
from slideinto.cells import WEST, checked_cell, four_beside, is_whole, shifted
from slideinto.errors import BadNumber


def regions(body):
    """The tuple of the regions but the outside, in the order of their numbers, each an ascending tuple."""
    lot = lot_of_body(body)
    firsts = [ring[0][0] for ring in rings_in(lot)[1:]]
    return tuple([tuple(sorted(region_from(lot, first))) for first in firsts])


def region_at(body, cell):
    """The number of the region of a cell, None if a square lies there."""
    lot = lot_of_body(body)
    place = checked_cell(cell)
    if place in lot:
        return None
    bank = west_end(lot, place)
    return 0 if bank is None else numbers_in(lot)[bank]


def border(body, region):
    """The tuple of all sides of a region, from the least one on, each one followed by its next one."""
    rings = rings_in(lot_of_body(body))
    if not is_whole(region) or not 0 <= region < len(rings):
        raise BadNumber("region", region)
    return tuple(rings[region])


def gaps(body):
    """The ascending tuple of the gaps, each a tuple of its two squares and its two empty cells."""
    return tuple(gaps_in(lot_of_body(body)))


def hung(body):
    """The tuple of the pairs (number, gap) of all regions but the outside that hang on it, numbers ascending."""
    found = hung_in(lot_of_body(body))
    return tuple([(number, found[number]) for number in sorted(found) if number > 0])


def region_from(lot, first):
    """The lot of the cells of a region, any one but the outside, by one of them."""
    found = {first: True}
    ahead = [first]
    while ahead:
        cell = ahead.pop()
        for near in four_beside(cell):
            if near not in lot and near not in found:
                found[near] = True
                ahead.append(near)
    return found


def west_end(lot, cell):
    """The cell at which one who goes west from an empty cell stands before a square, None if one never does."""
    columns = [column for column, row in lot]
    # Cells may lie anywhere: from far away in the east the way would be too long.
    if cell[0] > max(columns):
        return None
    least = min(columns)
    place = cell
    while place[0] > least:
        beyond = shifted(place, WEST)
        if beyond in lot:
            return place
        place = beyond
    return None


def next_side(lot, side):
    """The side that follows a side if one goes on with the square at the right hand."""
    cell, square = side
    across = square[0] - cell[0]
    up = square[1] - cell[1]
    ahead = (cell[0] - up, cell[1] + across)
    if ahead in lot:
        return (cell, ahead)
    beyond = (ahead[0] + across, ahead[1] + up)
    if beyond in lot:
        return (ahead, beyond)
    return (beyond, square)


def ring_from(lot, first):
    """The list of all sides that follow each other from a first one on, which comes behind the last one again."""
    ring = [first]
    side = next_side(lot, first)
    while side != first:
        ring.append(side)
        side = next_side(lot, side)
    return ring


def outside_ring(lot):
    """The ring of the outside, from its least side on."""
    least = min(lot)
    return ring_from(lot, (shifted(least, WEST), least))


def rings_in(lot):
    """The list of the rings of all regions, in the order of their numbers, each from its least side on."""
    sides = [(near, square) for square in lot for near in four_beside(square) if near not in lot]
    met = {}
    rings = []
    # The least of all sides is one of the outside, and the least cell of any other region has a square to the
    # west: so in the order of their least sides the rings come in that of the numbers.
    for side in sorted(sides):
        if side not in met:
            ring = ring_from(lot, side)
            rings.append(ring)
            for other in ring:
                met[other] = True
    return rings


def numbers_in(lot):
    """A dict that tells the number of the region of each empty cell beside a square."""
    return {cell: number for number, ring in enumerate(rings_in(lot)) for cell, square in ring}


def gaps_in(lot):
    """The ascending list of the gaps."""
    found = []
    for square in lot:
        column, row = square
        for beyond in (row - 1, row + 1):
            other = (column + 1, beyond)
            low = (column, beyond)
            high = (column + 1, row)
            if other in lot and low not in lot and high not in lot:
                found.append((square, other, low, high))
    return sorted(found)


def hung_in(lot):
    """A dict with the regions that hang on the outside: the gap towards it for each number, None for 0."""
    doors = doors_in(lot)
    found = {0: None}
    layer = [0]
    while layer:
        after = []
        for number in layer:
            for other, gap in doors.get(number, []):
                if other not in found:
                    found[other] = gap
                    after.append(other)
        layer = after
    return found


def doors_in(lot):
    """A dict that tells the pairs (number of the other region, gap) of each region with a gap."""
    numbers = numbers_in(lot)
    doors = {}
    for gap in gaps_in(lot):
        low = numbers[gap[2]]
        high = numbers[gap[3]]
        doors.setdefault(low, []).append((high, gap))
        doors.setdefault(high, []).append((low, gap))
    return doors
