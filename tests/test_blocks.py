"""Points [91] to [94]: the filled body, its joints and blocks, and sure movers."""

import itertools

from tests.helper import NO_BODIES, NO_CELLS, Case, add, all_shapes, block, carved, cells_beside, frame_around, grown
from tests.helper import image, large_bodies, many_bodies, path, plain_free, plain_parts, plain_regions, ring, rolled
from tests.helper import rolled_twice, row, spiral

from slideinto.blocks import blocks_of, corner_counts, filled, joints_of, outermost, shut_lots, sure_movers
from slideinto.bodies import free_squares, moved
from slideinto.borders import border, hung, region_at
from slideinto.errors import BadBody, BadCell
from slideinto.moves import moves_of

FAR = 10 ** 30
LARGE = 10 ** 5000

ALL = (filled, shut_lots, joints_of, blocks_of, outermost, sure_movers)


def union(*lots):
    return tuple(sorted(set().union(*lots)))


# A ring around another ring, joined by a square between them.
RINGS = union(ring(7, 7), moved(ring(3, 3), (2, 2)), [(1, 3)])

# A ring that is open at a corner: the cell within and the outside lie crosswise there.
OPEN = tuple(sorted(set(ring(3, 3)) - {(0, 0)}))

# Two shut cells that lie crosswise, and one on its own.
SHUT = union(tuple(sorted(set(block(4, 4)) - {(1, 1), (2, 2)})), row(3, (4, 0)), row(3, (4, 2)), [(6, 1)])


def corners_around(cell):
    return [add(cell, step) for step in itertools.product((0, 1), (0, 1))]


def cells_around(corner):
    """The four cells of a corner, beside each other those that follow each other."""
    return [add(corner, step) for step in ((-1, -1), (0, -1), (0, 0), (-1, 0))]


def plain_lots(body):
    """The lots of regions, as sets of numbers, that gaps join: that of the outside first."""
    regions = plain_regions(body)
    numbers = {cell: number for number, cells in enumerate(regions) for cell in cells}
    lots = [{number} for number in range(len(regions))]
    for corner in sorted({corner for square in body for corner in corners_around(square)}):
        cells = cells_around(corner)
        for one, two, square, other in (cells[::2] + cells[1::2], cells[1::2] + cells[::2]):
            if square in body and other in body and one not in body and two not in body:
                joined = {numbers[one], numbers[two]}
                touched = [lot for lot in lots if lot & joined]
                lots = [lot for lot in lots if not lot & joined] + [set().union(*touched)]
    return [tuple(sorted(lot)) for lot in sorted(lots, key=min)]


def plain_filled(body):
    regions = plain_regions(body)
    return union(body, *[regions[number] for lot in plain_lots(body)[1:] for number in lot])


def plain_counts(cells):
    told = [0, 0, 0]
    for corner in {corner for cell in cells for corner in corners_around(cell)}:
        inside = [cell in cells for cell in cells_around(corner)]
        if sum(inside) == 1:
            told[0] += 1
        if inside in ([True, False, True, False], [False, True, False, True]):
            told[1] += 1
        if sum(inside) == 3:
            told[2] += 1
    return tuple(told)


def plain_joints(cells):
    return tuple(cell for cell in cells if len(plain_parts(set(cells) - {cell})) > 1)


def plain_blocks(cells):
    """The lots into which cells fall if they are parted at their joints, time after time."""
    joints = plain_joints(cells)
    if not joints:
        return [tuple(sorted(cells))]
    parts = plain_parts(set(cells) - {joints[0]})
    return sorted(told for part in parts for told in plain_blocks(sorted(part | {joints[0]})))


def blocks_by_their_definition(cells):
    """All lots of two cells or more that hang together, also without any one of them, and are in no greater one."""
    lots = []
    for many in range(len(cells), 1, -1):
        for lot in itertools.combinations(cells, many):
            if not any(set(lot) <= set(other) for other in lots):
                rests = [set(lot)] + [set(lot) - {cell} for cell in lot]
                if all(len(plain_parts(rest)) == 1 for rest in rests):
                    lots.append(lot)
    return tuple(sorted(lots)) or (tuple(cells),)


def plain_sure_movers(body):
    cells, told = plain_filled(body), []
    joints = plain_joints(cells)
    for lot in plain_blocks(cells):
        if sum(cell in joints for cell in lot) < 2 and len(body) > 1:
            squares = []
            for cell in lot:
                near = sorted(cells_beside(cell) & set(cells))
                angle = len(near) == 2 and near[0][0] != near[1][0] and near[0][1] != near[1][1]
                if cell not in joints and (len(near) == 1 or angle):
                    squares.append(cell)
            told.append((lot, tuple(squares)))
    return tuple(told)


def bodies_with_holes():
    told = [ring(3, 3), ring(6, 4), RINGS, OPEN, SHUT, rolled(), rolled_twice(), moved(RINGS, (-FAR, LARGE))]
    told += [carved(wide, 7, 7 * wide - 14 - seed % 9, seed) for wide in (5, 6, 7) for seed in range(1, 14)]
    # A ring with a corridor of squares within, and one without.
    told += [union(ring(8, 6), path((1, 3), "EEE")), union(ring(5, 5), path((4, 2), "EEENN"), [(2, 1)])]
    return told + [image(body, way) for body in (RINGS, SHUT, OPEN) for way in range(8)]


def few_bodies():
    larger = [spiral(30), block(4, 5), row(12)] + [grown(n, n) for n in range(8, 40, 5)]
    return all_shapes(6) + bodies_with_holes() + larger


class FilledTest(Case):
    def test_without_shut_regions(self):
        for body in (((3, -3),), row(5), block(3, 4), spiral(20), OPEN, rolled()):
            self.assertEqual(filled(body), body)
            self.assertEqual(shut_lots(body), ())

    def test_rings(self):
        self.assertEqual(filled(ring(3, 3)), block(3, 3))
        self.assertEqual(shut_lots(ring(3, 3)), ((1,),))
        self.assertEqual(filled(body=ring(6, 4)), block(6, 4))
        self.assertEqual(filled(RINGS), block(7, 7))
        self.assertEqual(shut_lots(body=RINGS), ((1,), (2,)))

    def test_regions_that_gaps_join(self):
        self.assertEqual(shut_lots(SHUT), ((1, 2), (3,)))
        self.assertEqual(filled(SHUT), union(block(4, 4), row(3, (4, 0)), row(3, (4, 1)), row(3, (4, 2))))

    def test_a_row_of_gaps(self):
        body = tuple(sorted(set(block(6, 6)) - {(k, k) for k in range(1, 5)}))
        self.assertEqual(shut_lots(body), ((1, 2, 3, 4),))
        self.assertEqual(shut_lots(image(body, 1)), ((1, 2, 3, 4),))
        self.assertEqual(filled(body), block(6, 6))

    def test_against_the_plain_telling(self):
        many = 0
        for body in few_bodies():
            self.assertEqual(filled(body), plain_filled(body))
            self.assertEqual(shut_lots(body), tuple(plain_lots(body)[1:]))
            many += len(shut_lots(body)) > 1
            hanging = {0} | {number for number, _ in hung(body)}
            self.assertEqual(plain_lots(body)[0], tuple(sorted(hanging)))
        self.assertGreater(many, 5)

    def test_bad_bodies(self):
        for value in NO_BODIES:
            for call in ALL:
                self.assert_error((BadBody, value), call, value)
                self.assert_error((BadBody, value), call, body=value)


class CornersTest(Case):
    def test_few_cells(self):
        self.assertEqual(corner_counts([]), (0, 0, 0))
        self.assertEqual(corner_counts(()), (0, 0, 0))
        self.assertEqual(corner_counts([(5, 5)]), (4, 0, 0))
        self.assertEqual(corner_counts(cells=[(5, 5), (5, 5)]), (4, 0, 0))
        self.assertEqual(corner_counts([(0, 0), (1, 1)]), (6, 1, 0))
        self.assertEqual(corner_counts(((1, 0), (0, 1))), (6, 1, 0))
        self.assertEqual(corner_counts([(0, 0), (0, 1), (1, 0)]), (5, 0, 1))
        self.assertEqual(corner_counts(block(2, 2)), (4, 0, 0))
        self.assertEqual(corner_counts(ring(3, 3)), (4, 0, 4))
        self.assertEqual(corner_counts([(0, 0), (LARGE, -LARGE)]), (8, 0, 0))

    def test_many_cells(self):
        for seed, body in enumerate(few_bodies()):
            for cells in (body, body[::2], body[::3] + body[1::3], body[::-1] + body):
                told = corner_counts(list(cells))
                self.assertEqual(told, plain_counts(cells))
                self.assertEqual({type(number) for number in told}, {int})

    def test_the_first_item_that_is_no_cell(self):
        for value in NO_CELLS:
            self.assert_error((BadCell, value), corner_counts, [value])
            self.assert_error((BadCell, value), corner_counts, ((0, 0), value, 5))


class BlocksTest(Case):
    def test_one_and_two_squares(self):
        self.assertEqual((joints_of(((3, 4),)), blocks_of(((3, 4),))), ((), (((3, 4),),)))
        self.assertEqual((outermost(((3, 4),)), sure_movers(((3, 4),))), ((((3, 4),),), ()))
        self.assertEqual((joints_of(row(2)), blocks_of(row(2)), outermost(row(2))), ((), (row(2),), (row(2),)))
        self.assertEqual(sure_movers(row(2)), ((row(2), row(2)),))

    def test_rows(self):
        self.assertEqual(joints_of(row(4)), ((1, 0), (2, 0)))
        pairs = tuple(row(2, (k, 0)) for k in range(3))
        self.assertEqual(blocks_of(body=row(4)), pairs)
        self.assertEqual(outermost(body=row(4)), pairs[::2])
        self.assertEqual(sure_movers(body=row(4)), ((pairs[0], ((0, 0),)), (pairs[2], ((3, 0),))))

    def test_squares_of_four_with_arms(self):
        body = union(block(2, 2), row(2, (2, 0)), [(0, 2)])
        self.assertEqual(joints_of(body=body), ((0, 1), (1, 0), (2, 0)))
        told = (block(2, 2), ((0, 1), (0, 2)), row(2, (1, 0)), row(2, (2, 0)))
        self.assertEqual(blocks_of(body), tuple(sorted(told)))
        self.assertEqual(outermost(body), (((0, 1), (0, 2)), row(2, (2, 0))))
        self.assertEqual(sure_movers(body), ((((0, 1), (0, 2)), ((0, 2),)), (row(2, (2, 0)), ((3, 0),))))
        body = union(block(2, 2), row(2, (2, 0)))
        self.assertEqual(sure_movers(body)[0], (block(2, 2), ((0, 0), (0, 1), (1, 1))))

    def test_rings_with_arms(self):
        body = union(ring(4, 3), row(2, (4, 1)))
        self.assertEqual(joints_of(body), ((3, 1), (4, 1)))
        self.assertEqual(blocks_of(body), (block(4, 3), row(2, (3, 1)), row(2, (4, 1))))
        self.assertEqual(sure_movers(body)[0], (block(4, 3), ((0, 0), (0, 2), (3, 0), (3, 2))))
        self.assertEqual(sure_movers(body)[1], (row(2, (4, 1)), ((5, 1),)))
        within = union(ring(5, 5), [(2, 1)])
        self.assertEqual((joints_of(within), blocks_of(within)), ((), (block(5, 5),)))

    def test_the_open_ring(self):
        self.assertEqual(joints_of(OPEN), ((0, 2), (1, 2), (2, 0), (2, 1), (2, 2)))
        self.assertEqual(len(blocks_of(OPEN)), 6)

    def test_by_their_definition(self):
        for body in all_shapes(6) + [ring(3, 3), OPEN]:
            self.assertEqual(blocks_of(body), blocks_by_their_definition(filled(body)))

    def test_against_the_plain_telling(self):
        for body in few_bodies():
            cells = plain_filled(body)
            blocks = plain_blocks(cells)
            joints = plain_joints(cells)
            self.assertEqual(joints_of(body), joints)
            self.assertEqual(blocks_of(body), tuple(blocks))
            self.assertEqual(outermost(body), tuple(lot for lot in blocks if len(set(lot) & set(joints)) < 2))
            self.assertEqual(sure_movers(body), plain_sure_movers(body))


class FactsTest(Case):
    def test_corners(self):
        for body in many_bodies() + bodies_with_holes():
            self.assertEqual(len(plain_parts(filled(body))), 1)
            single, crosswise, triple = corner_counts(filled(body))
            self.assertEqual(single + 2 * crosswise - triple, 4)
            single, crosswise, triple = corner_counts(body)
            self.assertEqual(single + 2 * crosswise - triple, 4 - 4 * len(shut_lots(body)))

    def test_blocks(self):
        for body in many_bodies() + bodies_with_holes():
            blocks, joints = blocks_of(body), joints_of(body)
            if len(blocks) < 40:
                for one, two in itertools.combinations(blocks, 2):
                    both = set(one) & set(two)
                    self.assertLessEqual(len(both), 1)
                    self.assertLessEqual(both, set(joints))
            self.assertGreaterEqual(len(outermost(body)), 2 if joints else 1)
            self.assertEqual(union(*blocks), filled(body))

    def test_sure_movers_can_move(self):
        for body in few_bodies():
            told = sure_movers(body)
            squares = [square for _, lot in told for square in lot]
            free = free_squares(body)
            self.assertEqual(free, plain_free(body))
            starts = {start for start, _ in moves_of(body)}
            hanging = [0] + [number for number, _ in hung(body)]
            sides = {square for number in hanging for _, square in border(body, number)}
            for square in squares:
                self.assertIn(square, free)
                self.assertIn(square, starts)
                self.assertIn(square, sides)
            if len(body) > 1:
                self.assertGreaterEqual(len(set(squares)), 2)
                self.assert_enough(told, joints_of(body))

    def assert_enough(self, told, joints):
        for lot, squares in told:
            has_joint = bool(set(lot) & set(joints))
            if len(lot) == 2:
                self.assertEqual(len(squares), 1 if has_joint else 2)
            else:
                self.assertGreaterEqual(len(squares), 3 if has_joint else 4)

    def test_regions_of_the_bodies(self):
        self.assertEqual(region_at(RINGS, (1, 1)), 1)
        self.assertEqual(region_at(RINGS, (3, 3)), 2)
        self.assertIn((1, 1), frame_around(RINGS, 0))


class LimitsTest(Case):
    def test_large_bodies(self):
        for name, body in large_bodies().items():
            self.assertEqual(len(filled(body)), 2600 if name == "ring" else 200)
            for call in ALL:
                self.assertIs(type(call(body)), tuple)
            if name in ("row", "comb", "grown"):
                self.assertEqual(joints_of(body), plain_joints(filled(body)))
        self.assertEqual(len(blocks_of(row(200))), 199)
        self.assertEqual(sure_movers(ring(52, 50))[0][1], ((0, 0), (0, 49), (51, 0), (51, 49)))

    def test_far_away(self):
        by = (LARGE, -FAR)
        self.assertEqual(filled(moved(RINGS, by)), moved(filled(RINGS), by))
        self.assertEqual(blocks_of(moved(SHUT, by)), tuple(moved(lot, by) for lot in blocks_of(SHUT)))
        self.assertEqual(corner_counts(moved(SHUT, by)), corner_counts(SHUT))
